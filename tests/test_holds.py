"""What holds, a to f, of what the program itself answers, at many sets of words."""

import unittest

from tests.helper import (
    CLOSE, CLOSED, EVEN, FARTHEST, MANY, MOVE, PATTERNS, REST, SIGN, STRENGTH, SUMS, SWAP, TILT, TWOS, UNEVEN, WORDS,
    after, each)
from tests.slow import closed_up, some_sets

SETS = list(some_sets())


def count(places):
    return bin(places).count("1")


def tilts(bits, words):
    return [out[1] for out in each(bits, words, [(TILT, u) for u in range(1 << bits)])]


def evens(bits, words):
    return [out[0] for out in each(bits, words, [(EVEN, u) for u in range(1 << bits)])]


def signs(bits):
    """The sign sum of k and i is in row k, place i."""
    rows = range(bits + 1)
    out = each(bits, [], [(SIGN, k, i) for k in rows for i in rows])
    return [[one[1] for one in out[k * len(rows):(k + 1) * len(rows)]] for k in rows]


SIGNS = {bits: signs(bits) for bits in range(1, 7)}


def asked(bits, words, call):
    """What is told behind the first number."""
    return after(bits, words, call)[0][1:]


def at_each_set(check):
    """A test that makes the check at each of the sets."""
    def test(self):
        for bits, words in SETS:
            with self.subTest(bits=bits, words=words):
                check(self, bits, words)
    return test


class Holds(unittest.TestCase):
    @at_each_set
    def test_a_sums_are_squares_of_tilts(self, bits, words):
        tilted = tilts(bits, words)
        squares = [sum(tilted[u] ** 2 for u in range(1 << bits) if count(u) == k) for k in range(bits + 1)]
        self.assertEqual(asked(bits, words, (SUMS,)), squares)

    @at_each_set
    def test_a_no_sum_is_below_nothing(self, bits, words):
        self.assertGreaterEqual(min(asked(bits, words, (SUMS,))), 0)

    @at_each_set
    def test_sums_are_twos_times_sign_sums(self, bits, words):
        twos = asked(bits, words, (TWOS,))
        self.assertEqual(
            asked(bits, words, (SUMS,)),
            [sum(twos[i] * SIGNS[bits][k][i] for i in range(bits + 1)) for k in range(bits + 1)])

    @at_each_set
    def test_b_even_just_where_nothing_tilts(self, bits, words):
        tilted = tilts(bits, words)
        for u, even in enumerate(evens(bits, words)):
            some_tilt = any(tilted[some] for some in range(1, u + 1) if some & u == some)
            self.assertEqual(even, 0 if some_tilt else 1, u)

    @at_each_set
    def test_c_strong_just_where_sums_are_nothing(self, bits, words):
        sums = asked(bits, words, (SUMS,))
        strength = after(bits, words, (STRENGTH,))[0][0]
        for t in range(bits + 1):
            self.assertEqual(strength >= t, not any(sums[1:t + 1]), t)

    @at_each_set
    def test_d_there_and_back(self, bits, words):
        sums = asked(bits, words, (SUMS,))
        back = [sum(sums[k] * SIGNS[bits][i][k] for k in range(bits + 1)) for i in range(bits + 1)]
        self.assertEqual(back, [(1 << bits) * two for two in asked(bits, words, (TWOS,))])

    @at_each_set
    def test_e_moved_or_with_bits_exchanged(self, bits, words):
        twos, sums = after(bits, words, (TWOS,), (SUMS,))
        for call in ((MOVE, 1), (MOVE, (1 << bits) - 1), (SWAP, 0, bits - 1), (SWAP, bits // 2, 0)):
            self.assertEqual(after(bits, words, call, (TWOS,), (SUMS,)), [[0], twos, sums], call)

    @at_each_set
    def test_e_the_rest(self, bits, words):
        sums = asked(bits, words, (SUMS,))
        others = after(bits, words, (REST,), (SUMS,))[1][1:]
        self.assertEqual(others[1:], sums[1:])
        self.assertEqual((sums[0], others[0]), (len(words) ** 2, ((1 << bits) - len(words)) ** 2))

    @at_each_set
    def test_e_even_on_fewer_and_a_multiple(self, bits, words):
        even = evens(bits, words)
        for u in range(1 << bits):
            if even[u]:
                self.assertEqual(len(words) % (1 << count(u)), 0, u)
                self.assertTrue(all(even[some] for some in range(u + 1) if some & u == some), u)

    @at_each_set
    def test_f_closed(self, bits, words):
        closed = sorted(closed_up(words))
        out = after(bits, words, (CLOSE,), (CLOSED,), (SUMS,), (WORDS,))
        self.assertEqual(out[1], [1])
        self.assertEqual(out[3], [len(closed)] + closed)
        whole = [u for u, tilt in enumerate(tilts(bits, closed)) if tilt == len(closed)]
        self.assertEqual(
            out[2][1:], [len(closed) ** 2 * len([u for u in whole if count(u) == k]) for k in range(bits + 1)])

    @at_each_set
    def test_closed_just_where_closing_puts_nothing_in(self, bits, words):
        out = after(bits, words, (CLOSED,), (CLOSE,), (WORDS,))
        self.assertEqual(out[0], [1 if out[2][1:] == words else 0])

    @at_each_set
    def test_strength_and_uneven_together(self, bits, words):
        strength, uneven, many = after(bits, words, (STRENGTH,), (UNEVEN,), (MANY,))
        if many[0] in (0, 1 << bits):
            self.assertEqual((strength, uneven), ([bits], [-33]))
        else:
            self.assertEqual(uneven[0], strength[0] + 1)
            self.assertEqual(count(uneven[1]), uneven[0])
            self.assertEqual(after(bits, words, (EVEN, uneven[1])), [[0]])

    @at_each_set
    def test_patterns_are_all_words_together(self, bits, words):
        for u in range(1 << bits):
            counts = asked(bits, words, (PATTERNS, u))
            self.assertEqual((len(counts), sum(counts)), (1 << count(u), len(words)))

    @at_each_set
    def test_farthest_of_moved_words(self, bits, words):
        if words:
            ahead, moved, behind = after(bits, words, (FARTHEST,), (MOVE, 1), (FARTHEST,))
            self.assertEqual((ahead[0], ahead[2]), (behind[0], behind[2]))


if __name__ == "__main__":
    unittest.main()
