"""All sets of words of one to three bits, and some of more, each call beside a slow one after the document's words."""

import unittest

from tests.helper import (
    ALIKE, CLOSE, CLOSED, DIST, EVEN, FARTHEST, LEAST, MANY, MOVE, OFF, PATTERNS, PUT, REST, SHOW, SIGN, STRENGTH, SUMS,
    SWAP, TAKE, TILT, TWOS, UNEVEN, WORDS, after, shown)
from tests.slow import (
    alike, closed, closed_up, even, far, farthest, least, number, off, ones, patterns, sign_sum, some_sets, strength,
    sums, swapped, tilt, twos, uneven)


class EverythingSmall(unittest.TestCase):
    def check_change(self, bits, words, call, first, become):
        become = sorted(become)
        with self.subTest(bits=bits, words=words, call=call):
            self.assertEqual(after(bits, words, call, *SHOW), [[first]] + shown(bits, become))

    def test_put_and_take(self):
        for bits, words in some_sets():
            for x in range(1 << min(bits, 3)):
                if x in words:
                    self.check_change(bits, words, (PUT, x), -17, words)
                    self.check_change(bits, words, (TAKE, x), len(words) - 1, set(words) - {x})
                else:
                    self.check_change(bits, words, (PUT, x), len(words) + 1, set(words) | {x})
                    self.check_change(bits, words, (TAKE, x), -2, words)

    def test_rest_and_close(self):
        for bits, words in some_sets():
            others = set(range(1 << bits)) - set(words)
            self.check_change(bits, words, (REST,), len(others), others)
            become = closed_up(words)
            self.check_change(bits, words, (CLOSE,), len(become), become)

    def test_move(self):
        for bits, words in some_sets():
            for y in range(1 << min(bits, 3)):
                self.check_change(bits, words, (MOVE, y), 0, {number(ones(word) ^ ones(y)) for word in words})

    def test_swap(self):
        for bits, words in some_sets():
            for i in range(bits):
                for j in range(bits):
                    self.check_change(bits, words, (SWAP, i, j), 0, {swapped(word, i, j) for word in words})

    def test_looks(self):
        for bits, words in some_sets():
            xs = range(0, 1 << bits, 1 if bits < 5 else 5)
            calls = [(MANY,), (WORDS,), (LEAST,)] + [(OFF, x) for x in xs]
            with self.subTest(bits=bits, words=words):
                self.assertEqual(
                    after(bits, words, *calls),
                    [[len(words)], [len(words)] + words, least(words)] + [off(words, x) for x in xs])

    def test_dist(self):
        for bits in range(1, 7):
            for x in range(1 << bits):
                for y in range(1 << bits):
                    with self.subTest(bits=bits, x=x, y=y):
                        self.assertEqual(after(bits, [], (DIST, x, y)), [[far(x, y)]])

    def test_moved_or_swapped_distances_stay(self):
        for bits, words in some_sets():
            with self.subTest(bits=bits, words=words):
                same = least(words)
                self.assertEqual(
                    after(bits, words, (MOVE, 1), (LEAST,), (SWAP, 0, bits - 1), (LEAST,)), [[0], same, [0], same])

    def test_farthest_and_closed(self):
        for bits, words in some_sets():
            with self.subTest(bits=bits, words=words):
                self.assertEqual(after(bits, words, (FARTHEST,), (CLOSED,)), [farthest(bits, words), closed(words)])

    def test_alike(self):
        for bits, words in some_sets():
            xs = range(0, 1 << bits, 1 if bits < 5 else 5)
            with self.subTest(bits=bits, words=words):
                self.assertEqual(
                    after(bits, words, *[(ALIKE, x) for x in xs]), [alike(bits, words, x) for x in xs])

    def test_twos_and_sums(self):
        for bits, words in some_sets():
            with self.subTest(bits=bits, words=words):
                self.assertEqual(
                    after(bits, words, (TWOS,), (SUMS,)),
                    [[bits + 1] + twos(bits, words), [bits + 1] + sums(bits, words)])

    def test_sign(self):
        for bits in range(1, 7):
            for k in range(bits + 1):
                for i in range(bits + 1):
                    with self.subTest(bits=bits, k=k, i=i):
                        self.assertEqual(after(bits, [], (SIGN, k, i)), [[0, sign_sum(bits, k, i)]])

    def test_tilt_patterns_and_even(self):
        for bits, words in some_sets():
            for u in range(1 << bits):
                counts = patterns(words, u)
                with self.subTest(bits=bits, words=words, u=u):
                    self.assertEqual(
                        after(bits, words, (TILT, u), (PATTERNS, u), (EVEN, u)),
                        [[0, tilt(words, u)], [len(counts)] + counts, [1 if even(words, u) else 0]])

    def test_strength_and_uneven(self):
        for bits, words in some_sets():
            with self.subTest(bits=bits, words=words):
                self.assertEqual(
                    after(bits, words, (STRENGTH,), (UNEVEN,)), [[strength(bits, words)], uneven(bits, words)])


if __name__ == "__main__":
    unittest.main()
