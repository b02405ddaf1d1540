"""twos, sums, sign."""

import unittest

from tests.helper import BEGIN, CLOSE, MOVE, PUT, REST, SIGN, SUMS, SWAP, TAKE, TWOS, after, each, even_weights

SIX_OVER = [1, 6, 15, 20, 15, 6, 1]


class Twos(unittest.TestCase):
    def check(self, bits, words, twos):
        with self.subTest(bits=bits, words=words):
            self.assertEqual(after(bits, words, (TWOS,)), [[bits + 1] + twos])

    def test_each_with_each_in_both_orders(self):
        self.check(2, [0, 1, 3], [3, 4, 2])
        self.check(3, [1, 2, 4], [3, 0, 6, 0])
        self.check(4, [0, 7, 8, 9], [4, 4, 2, 4, 2])

    def test_no_words_and_one(self):
        for bits in range(1, 7):
            self.check(bits, [], [0] * (bits + 1))
            for word in (0, 1, (1 << bits) - 1):
                self.check(bits, [word], [1] + [0] * bits)

    def test_all_words(self):
        self.check(1, [0, 1], [2, 2])
        self.check(3, list(range(8)), [8, 24, 24, 8])
        self.check(6, list(range(64)), [64 * many for many in SIX_OVER])

    def test_opposites(self):
        for bits in range(1, 7):
            self.check(bits, [0, (1 << bits) - 1], [2] + [0] * (bits - 1) + [2])
            self.check(bits, [1, (1 << bits) - 2], [2] + [0] * (bits - 1) + [2])

    def test_even_weights(self):
        self.check(4, even_weights(4), [8, 0, 48, 0, 8])
        self.check(6, even_weights(6), [32, 0, 480, 0, 480, 0, 32])

    def test_words_changed_between(self):
        self.assertEqual(
            after(3, [1, 2], (TWOS,), (CLOSE,), (TWOS,), (MOVE, 4), (TWOS,), (SWAP, 0, 2), (TWOS,), (REST,), (TWOS,),
                  (PUT, 1), (TWOS,), (TAKE, 0), (TWOS,)),
            [[4, 2, 0, 2, 0], [4], [4, 4, 8, 4, 0], [0], [4, 4, 8, 4, 0], [0], [4, 4, 8, 4, 0], [4], [4, 4, 8, 4, 0],
             [5], [4, 5, 10, 8, 2], [4], [4, 4, 4, 6, 2]])


class Sums(unittest.TestCase):
    def check(self, bits, words, sums):
        with self.subTest(bits=bits, words=words):
            self.assertEqual(after(bits, words, (SUMS,)), [[bits + 1] + sums])

    def test_some_words(self):
        self.check(2, [0, 1, 3], [9, 2, 1])
        self.check(3, [1, 2, 4], [9, 3, 3, 9])
        self.check(3, [1, 6], [4, 0, 12, 0])

    def test_no_words_and_one(self):
        for bits in range(1, 7):
            self.check(bits, [], [0] * (bits + 1))
        self.check(1, [0], [1, 1])
        self.check(1, [1], [1, 1])
        self.check(3, [5], [1, 3, 3, 1])
        self.check(6, [0], SIX_OVER)

    def test_all_words(self):
        for bits in range(1, 7):
            self.check(bits, list(range(1 << bits)), [1 << (2 * bits)] + [0] * bits)

    def test_opposites(self):
        self.check(1, [0, 1], [4, 0])
        self.check(4, [0, 15], [4, 0, 24, 0, 4])
        self.check(4, [6, 9], [4, 0, 24, 0, 4])
        self.check(5, [1, 30], [4, 0, 40, 0, 20, 0])

    def test_even_weights(self):
        for bits in range(2, 7):
            self.check(bits, even_weights(bits), [1 << (2 * bits - 2)] + [0] * (bits - 1) + [1 << (2 * bits - 2)])

    def test_the_rest_and_moved_and_closed(self):
        self.assertEqual(
            after(3, [1, 2, 4], (REST,), (SUMS,), (MOVE, 6), (SUMS,), (REST,), (SUMS,), (CLOSE,), (SUMS,)),
            [[5], [4, 25, 3, 3, 9], [0], [4, 25, 3, 3, 9], [3], [4, 9, 3, 3, 9], [8], [4, 64, 0, 0, 0]])


class Sign(unittest.TestCase):
    def check(self, bits, rows):
        calls = [(SIGN, k, i) for k in range(bits + 1) for i in range(bits + 1)]
        with self.subTest(bits=bits):
            self.assertEqual(each(bits, [], calls), [[0, one] for row in rows for one in row])

    def test_one_bit(self):
        self.check(1, [[1, 1], [1, -1]])

    def test_three_bits(self):
        self.check(3, [[1, 1, 1, 1], [3, 1, -1, -3], [3, -1, -1, 3], [1, -1, 1, -1]])

    def test_six_bits(self):
        self.check(6, [
            [1, 1, 1, 1, 1, 1, 1], [6, 4, 2, 0, -2, -4, -6], [15, 5, -1, -3, -1, 5, 15], [20, 0, -4, 0, 4, 0, -20],
            [15, -5, -1, 3, -1, -5, 15], [6, -4, 2, 0, -2, 4, -6], [1, -1, 1, -1, 1, -1, 1]])

    def test_the_words_there_are_do_not_matter(self):
        for words in ([], [3], [0, 15], list(range(16)), even_weights(4)):
            with self.subTest(words=words):
                self.assertEqual(
                    after(4, words, (SIGN, 1, 4), (SIGN, 4, 1), (SIGN, 2, 2), (REST,), (SIGN, 2, 2)),
                    [[0, -4], [0, -1], [0, -2], [16 - len(words)], [0, -2]])

    def test_the_bits_are_those_begun_last(self):
        self.assertEqual(
            after(6, [1], (SIGN, 1, 5), (BEGIN, 2), (SIGN, 1, 2), (SIGN, 1, 5)), [[0, -4], [0], [0, -2], [-22]])


if __name__ == "__main__":
    unittest.main()
