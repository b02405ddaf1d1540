"""put, take, rest, move, swap, close; and many and words, by which they show."""

import unittest

from tests.helper import BEGIN, CLOSE, LEAST, MANY, MOVE, PUT, REST, SHOW, SWAP, TAKE, WORDS, after, ask, shown

EVEN_OF_FOUR = [0, 3, 5, 6, 9, 10, 12, 15]
ODD_OF_FOUR = [1, 2, 4, 7, 8, 11, 13, 14]


class PutAndTake(unittest.TestCase):
    def test_how_many_are_there(self):
        self.assertEqual(
            ask((BEGIN, 3), (PUT, 6), (PUT, 1), (PUT, 4), (WORDS,), (TAKE, 4), (TAKE, 6), (WORDS,), (TAKE, 1), (WORDS,)),
            [[0], [1], [2], [3], [3, 1, 4, 6], [2], [1], [1, 1], [0], [0]])

    def test_the_same_word_again_and_again(self):
        self.assertEqual(
            ask((BEGIN, 2), (PUT, 3), (PUT, 3), (TAKE, 3), (TAKE, 3), (PUT, 3), (MANY,)),
            [[0], [1], [-17], [0], [-2], [1], [1]])

    def test_the_word_0_is_a_word(self):
        self.assertEqual(
            ask((BEGIN, 1), (TAKE, 0), (PUT, 0), (WORDS,), (TAKE, 0), (WORDS,)), [[0], [-2], [1], [1, 0], [0], [0]])

    def test_words_rise_in_whatever_order_they_came(self):
        for words in ([5, 0, 63, 32, 31], [63, 62, 2, 1], [1, 2, 62, 63]):
            with self.subTest(words=words):
                self.assertEqual(after(6, words, (WORDS,)), [[len(words)] + sorted(words)])


class Rest(unittest.TestCase):
    def check(self, bits, words):
        others = [word for word in range(1 << bits) if word not in words]
        with self.subTest(bits=bits, words=words):
            self.assertEqual(
                after(bits, words, (REST,), *SHOW, (REST,), *SHOW),
                [[len(others)]] + shown(bits, others) + [[len(words)]] + shown(bits, words))

    def test_no_words_and_all(self):
        for bits in range(1, 7):
            self.check(bits, [])
            self.check(bits, list(range(1 << bits)))

    def test_some_words(self):
        self.check(3, [0, 7])
        self.check(4, EVEN_OF_FOUR)
        self.check(6, [63])
        self.check(1, [1])

    def test_even_weights_and_odd(self):
        self.assertEqual(after(4, EVEN_OF_FOUR, (REST,), (WORDS,)), [[8], [8] + ODD_OF_FOUR])

    def test_counts_on_from_the_rest(self):
        self.assertEqual(
            after(2, [1], (REST,), (PUT, 0), (PUT, 1), (TAKE, 2), (WORDS,)), [[3], [-17], [4], [3], [3, 0, 1, 3]])


class Move(unittest.TestCase):
    def check(self, bits, words, y, become):
        with self.subTest(bits=bits, words=words, y=y):
            self.assertEqual(
                after(bits, words, (MOVE, y), *SHOW, (MOVE, y), *SHOW),
                [[0]] + shown(bits, become) + [[0]] + shown(bits, words))

    def test_each_becomes_both_together(self):
        self.check(3, [1, 2, 6], 3, [2, 1, 5])
        self.check(6, [0, 63, 21], 42, [42, 21, 63])
        self.check(1, [0], 1, [1])

    def test_by_nothing(self):
        self.check(4, EVEN_OF_FOUR, 0, EVEN_OF_FOUR)

    def test_none_and_all(self):
        self.check(5, [], 19, [])
        self.check(5, list(range(32)), 19, list(range(32)))

    def test_even_weights_by_an_odd_and_an_even_one(self):
        self.check(4, EVEN_OF_FOUR, 1, ODD_OF_FOUR)
        self.check(4, EVEN_OF_FOUR, 6, EVEN_OF_FOUR)

    def test_opposites_stay_opposites(self):
        self.check(5, [0, 31], 12, [12, 19])

    def test_closed_and_moved(self):
        self.assertEqual(
            after(3, [1, 2], (CLOSE,), (MOVE, 4), (WORDS,), (CLOSE,), (WORDS,)),
            [[4], [0], [4, 4, 5, 6, 7], [8], [8, 0, 1, 2, 3, 4, 5, 6, 7]])


class Swap(unittest.TestCase):
    def check(self, bits, words, i, j, become):
        for first, second in ((i, j), (j, i)):
            with self.subTest(bits=bits, words=words, i=first, j=second):
                self.assertEqual(
                    after(bits, words, (SWAP, first, second), *SHOW, (SWAP, first, second), *SHOW),
                    [[0]] + shown(bits, become) + [[0]] + shown(bits, words))

    def test_both_bits_are_exchanged_in_each(self):
        self.check(3, [1, 2, 5], 0, 2, [4, 2, 5])
        self.check(6, [1, 33, 30], 0, 5, [32, 33, 30])
        self.check(2, [0, 1, 3], 1, 0, [0, 2, 3])

    def test_i_and_j_alike(self):
        for bit in range(6):
            self.check(6, [0, 1, 2, 4, 8, 16, 32, 63], bit, bit, [0, 1, 2, 4, 8, 16, 32, 63])
        self.check(1, [1], 0, 0, [1])

    def test_none_and_all_and_even_weights(self):
        self.check(4, [], 0, 3, [])
        self.check(4, list(range(16)), 0, 3, list(range(16)))
        self.check(4, EVEN_OF_FOUR, 1, 2, EVEN_OF_FOUR)

    def test_one_behind_another(self):
        self.assertEqual(after(3, [1], (SWAP, 0, 1), (SWAP, 1, 2), (WORDS,)), [[0], [0], [1, 4]])


class Close(unittest.TestCase):
    def check(self, bits, words, become):
        with self.subTest(bits=bits, words=words):
            self.assertEqual(
                after(bits, words, (CLOSE,), *SHOW, (CLOSE,), *SHOW),
                [[len(become)]] + shown(bits, become) + [[len(become)]] + shown(bits, become))

    def test_no_words(self):
        for bits in range(1, 7):
            self.check(bits, [], [])

    def test_one_word(self):
        self.check(3, [0], [0])
        self.check(3, [5], [0, 5])
        self.check(1, [1], [0, 1])

    def test_opposites(self):
        self.check(4, [0, 15], [0, 15])
        self.check(4, [3, 12], [0, 3, 12, 15])

    def test_again_and_again(self):
        self.check(6, [1, 2, 4, 8, 16, 32], list(range(64)))
        self.check(4, [3, 6, 12], EVEN_OF_FOUR)
        self.check(6, [48, 12, 3], [0, 3, 12, 15, 48, 51, 60, 63])

    def test_words_that_bring_nothing_new(self):
        self.check(4, [3, 5, 6], [0, 3, 5, 6])
        self.check(3, [6, 7], [0, 1, 6, 7])

    def test_all_and_even_and_odd_weights(self):
        self.check(5, list(range(32)), list(range(32)))
        self.check(4, EVEN_OF_FOUR, EVEN_OF_FOUR)
        self.check(4, ODD_OF_FOUR, list(range(16)))

    def test_counts_on_from_there(self):
        self.assertEqual(
            after(3, [3, 5], (LEAST,), (CLOSE,), (TAKE, 0), (REST,), (WORDS,)), [[2], [4], [3], [5], [5, 0, 1, 2, 4, 7]])


if __name__ == "__main__":
    unittest.main()
