"""Lines of 60 calls in which all of the calls come, beside the slow object."""

import unittest

from farwords.sums import answers
from tests.helper import (
    ALIKE, BEGIN, BIGGEST, CLOSE, DIST, EVEN, FARTHEST, MOVE, OFF, PATTERNS, PUT, REST, SIGN, STRENGTH, SUMS, SWAP, TAKE,
    TILT, TWOS, UNEVEN, flat, parted)
from tests.slow import Slow

WORD = (PUT, TAKE, MOVE, OFF, TILT, PATTERNS, EVEN, ALIKE)


class Numbers:
    """Numbers that are all over the place, but the same each time on each Python."""

    def __init__(self, seed):
        self.state = seed * 2654435761 % (1 << 32)

    def below(self, limit):
        self.state = (self.state * 1664525 + 1013904223) % (1 << 32)
        return (self.state >> 8) % limit

    def one_of(self, choices):
        return choices[self.below(len(choices))]

    def mixed(self, rows):
        rows = list(rows)
        for last in range(len(rows) - 1, 0, -1):
            other = self.below(last + 1)
            rows[last], rows[other] = rows[other], rows[last]
        return rows


def word(numbers, bits):
    """Mostly one that fits, and sometimes one that just doesn't, or not at all."""
    if numbers.below(8) == 0:
        return numbers.one_of((1 << bits, (1 << bits) + 1, 64, BIGGEST))
    return numbers.below(1 << bits)


def told(numbers, bits, which):
    if which == BEGIN:
        return (numbers.one_of((0, 7, BIGGEST, bits)),)
    if which in WORD:
        return (word(numbers, bits),)
    if which == DIST:
        return (word(numbers, bits), word(numbers, bits))
    if which == SWAP:
        return (numbers.below(bits + (numbers.below(4) == 0)), numbers.below(bits))
    if which == SIGN:
        return (numbers.below(bits + 1), numbers.below(bits + 1 + numbers.below(2)))
    return ()


def line(seed):
    """A begin, then all calls and more of them, mixed; now and then calls come ahead of the begin."""
    numbers = Numbers(seed)
    bits = 1 + seed % 6
    more = [numbers.one_of((PUT, PUT, PUT, TAKE, MOVE, REST, CLOSE, TWOS, SUMS, TILT, PATTERNS, EVEN, STRENGTH, UNEVEN,
                            FARTHEST, ALIKE, ALIKE)) for time in range(28)]
    calls = [(which,) + told(numbers, bits, which) for which in numbers.mixed(list(range(23)) + more)]
    start = [(BEGIN, bits)] + [(PUT, numbers.below(1 << bits)) for time in range(8)]
    return start + calls if seed % 5 else calls[:6] + start + calls[6:]


class Lines(unittest.TestCase):
    def check(self, calls):
        self.assertEqual(len(calls), 60)
        self.assertEqual({call[0] for call in calls}, set(range(23)))
        slow = Slow()
        out = parted(answers(flat(calls)))
        self.assertEqual(len(out), 60)
        for at, call in enumerate(calls):
            self.assertEqual(out[at], slow.answer(call), (at, call, calls))
        return out

    def test_many_lines(self):
        firsts = {}
        for seed in range(240):
            with self.subTest(seed=seed):
                calls = line(seed)
                for call, out in zip(calls, self.check(calls)):
                    firsts.setdefault(call[0], set()).add(out[0] if out[0] < 0 else 0)
        # So that no line's numbers leave out what is to be asked: all that may be refused was, and was not.
        refused = {
            0: {-22}, 1: {-17, -22}, 2: {-2, -22}, 4: {-22}, 5: {-2}, 9: {-22}, 10: {-6, -22}, 11: {-33}, 14: {-22},
            15: {-22}, 16: {-22}, 17: {-22}, 19: {-33}, 21: {-6}, 22: {-2, -22}}
        for which in range(23):
            ahead = {-61} if which != BEGIN else set()
            self.assertEqual(firsts[which], {0} | ahead | refused.get(which, set()), which)

    def test_the_same_line_again_and_the_list_as_it_was(self):
        for seed in range(12):
            with self.subTest(seed=seed):
                calls = flat(line(seed))
                kept = list(calls)
                first = answers(calls)
                self.assertEqual(calls, kept)
                answers(flat(line(seed + 1)))
                self.assertEqual(answers(calls), first)
                self.assertTrue(all(type(number) is int for number in first))


if __name__ == "__main__":
    unittest.main()
