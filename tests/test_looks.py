"""dist, off, least, farthest, alike, closed."""

import unittest

from tests.helper import (
    ALIKE, CLOSE, CLOSED, DIST, FARTHEST, LEAST, MOVE, OFF, PUT, REST, SWAP, TAKE, after, even_weights)

EVEN_OF_SIX = even_weights(6)


class Dist(unittest.TestCase):
    def check(self, bits, x, y, far):
        for first, second in ((x, y), (y, x)):
            with self.subTest(bits=bits, x=first, y=second):
                self.assertEqual(after(bits, [], (DIST, first, second)), [[far]])

    def test_some(self):
        self.check(3, 1, 6, 3)
        self.check(4, 9, 5, 2)
        self.check(6, 32, 0, 1)
        self.check(6, 42, 10, 1)

    def test_one_bit(self):
        self.check(1, 0, 0, 0)
        self.check(1, 0, 1, 1)
        self.check(1, 1, 1, 0)

    def test_a_word_and_itself_and_its_opposite(self):
        for bits in range(1, 7):
            for word in range(1 << bits):
                self.check(bits, word, word, 0)
                self.check(bits, word, (1 << bits) - 1 - word, bits)

    def test_the_words_there_are_do_not_matter(self):
        self.assertEqual(after(3, [1, 6], (DIST, 0, 7), (REST,), (DIST, 0, 7)), [[3], [6], [3]])


class Off(unittest.TestCase):
    def check(self, bits, words, x, nearest, so_many):
        with self.subTest(bits=bits, words=words, x=x):
            self.assertEqual(after(bits, words, (OFF, x)), [[nearest, so_many]])

    def test_one_word(self):
        self.check(3, [5], 5, 0, 1)
        self.check(3, [5], 2, 3, 1)
        self.check(1, [0], 1, 1, 1)

    def test_some_words(self):
        self.check(3, [1, 2, 4], 0, 1, 3)
        self.check(3, [1, 2, 4], 7, 2, 3)
        self.check(3, [1, 2, 4], 3, 1, 2)
        self.check(3, [1, 2, 4], 4, 0, 1)
        self.check(4, [0, 7, 8], 15, 1, 1)

    def test_opposites(self):
        self.check(6, [0, 63], 7, 3, 2)
        self.check(6, [0, 63], 3, 2, 1)
        self.check(6, [0, 63], 60, 2, 1)

    def test_all_words(self):
        for bits in range(1, 7):
            self.check(bits, list(range(1 << bits)), 1, 0, 1)

    def test_even_weights(self):
        self.check(6, EVEN_OF_SIX, 3, 0, 1)
        self.check(6, EVEN_OF_SIX, 2, 1, 6)

    def test_the_rest(self):
        self.assertEqual(after(4, [6], (REST,), (OFF, 6), (OFF, 7)), [[15], [1, 4], [0, 1]])

    def test_moved_and_swapped_along(self):
        self.assertEqual(
            after(4, [1, 6], (OFF, 8), (MOVE, 5), (OFF, 13), (SWAP, 0, 3), (OFF, 13)),
            [[2, 1], [0], [2, 1], [0], [2, 1]])


class Least(unittest.TestCase):
    def check(self, bits, words, least):
        with self.subTest(bits=bits, words=words):
            self.assertEqual(after(bits, words, (LEAST,)), [[least]])

    def test_two_words(self):
        self.check(1, [0, 1], 1)
        self.check(4, [5, 6], 2)

    def test_opposites(self):
        for bits in range(1, 7):
            self.check(bits, [0, (1 << bits) - 1], bits)
            self.check(bits, [1, (1 << bits) - 2], bits)

    def test_all_words_and_even_weights(self):
        for bits in range(1, 7):
            self.check(bits, list(range(1 << bits)), 1)
        self.check(6, EVEN_OF_SIX, 2)

    def test_the_nearest_two_stand_anywhere(self):
        self.check(6, [0, 7, 56, 63], 3)
        self.check(6, [0, 7, 56, 57], 1)
        self.check(6, [0, 1, 30, 62], 1)
        self.check(6, [0, 15, 51, 60], 4)
        self.check(6, [0, 15, 32], 1)

    def test_closed_moved_and_the_rest(self):
        self.assertEqual(
            after(6, [15, 51], (LEAST,), (CLOSE,), (LEAST,), (MOVE, 1), (LEAST,), (REST,), (LEAST,)),
            [[4], [4], [4], [0], [4], [60], [1]])

    def test_none_are_left_of_all(self):
        self.assertEqual(after(2, [0, 1, 2, 3], (LEAST,), (REST,), (LEAST,)), [[1], [0], [-33]])


class Farthest(unittest.TestCase):
    def check(self, bits, words, most, first, many):
        with self.subTest(bits=bits, words=words):
            self.assertEqual(after(bits, words, (FARTHEST,)), [[most, first, many]])

    def test_one_word_and_its_opposite(self):
        for bits in range(1, 7):
            for word in (0, 1, (1 << bits) - 1):
                self.check(bits, [word], bits, (1 << bits) - 1 - word, 1)

    def test_some_words(self):
        self.check(3, [1, 2, 4], 2, 7, 1)
        self.check(3, [0, 1, 2], 2, 7, 1)
        self.check(4, [0, 7, 8], 2, 11, 3)
        self.check(6, [0, 7, 56, 63], 2, 9, 36)

    def test_all_words(self):
        for bits in range(1, 7):
            self.check(bits, list(range(1 << bits)), 0, 0, 1 << bits)

    def test_opposites(self):
        self.check(1, [0, 1], 0, 0, 2)
        self.check(3, [0, 7], 1, 1, 6)
        self.check(4, [0, 15], 2, 3, 6)
        self.check(4, [3, 12], 2, 0, 6)

    def test_even_weights(self):
        for bits in range(1, 7):
            self.check(bits, even_weights(bits), 1, 1, 1 << (bits - 1))

    def test_closed_moved_and_the_rest(self):
        self.assertEqual(
            after(4, [3, 12], (CLOSE,), (FARTHEST,), (MOVE, 1), (FARTHEST,), (REST,), (FARTHEST,)),
            [[4], [2, 5, 4], [0], [2, 4, 4], [12], [1, 1, 4]])

    def test_all_words_but_one(self):
        self.assertEqual(after(4, [6], (REST,), (FARTHEST,)), [[15], [1, 6, 1]])


class Alike(unittest.TestCase):
    def check(self, bits, words, x, many, counts):
        with self.subTest(bits=bits, words=words, x=x):
            self.assertEqual(after(bits, words, (ALIKE, x)), [[many] + counts])

    def test_some_words(self):
        self.check(2, [0, 1, 3], 0, 2, [1, 1, 1])
        self.check(2, [0, 1, 3], 1, 1, [1, 2, 0])
        self.check(2, [0, 1, 3], 3, 2, [1, 1, 1])
        self.check(3, [1, 2, 4], 1, 3, [1, 0, 2, 0])
        self.check(4, [0, 7, 8, 9], 8, 1, [1, 2, 0, 0, 1])
        self.check(4, [0, 7, 8, 9], 9, 2, [1, 1, 1, 1, 0])

    def test_one_word(self):
        for bits in range(1, 7):
            for word in (0, 1, (1 << bits) - 1):
                self.check(bits, [word], word, 1, [1] + [0] * bits)

    def test_all_words(self):
        self.check(1, [0, 1], 1, 2, [1, 1])
        self.check(3, list(range(8)), 5, 8, [1, 3, 3, 1])
        self.check(6, list(range(64)), 63, 64, [1, 6, 15, 20, 15, 6, 1])

    def test_opposites(self):
        for bits in range(1, 7):
            self.check(bits, [1, (1 << bits) - 2], 1, 2, [1] + [0] * (bits - 1) + [1])

    def test_even_weights(self):
        self.check(4, even_weights(4), 6, 8, [1, 0, 6, 0, 1])
        self.check(6, EVEN_OF_SIX, 3, 32, [1, 0, 15, 0, 15, 0, 1])

    def test_closed_moved_and_the_rest(self):
        self.assertEqual(
            after(3, [3, 5], (ALIKE, 3), (CLOSE,), (ALIKE, 3), (MOVE, 4), (ALIKE, 7), (TAKE, 7), (ALIKE, 7), (REST,),
                  (ALIKE, 7), (ALIKE, 0)),
            [[2, 1, 0, 1, 0], [4], [4, 1, 0, 3, 0], [0], [4, 1, 0, 3, 0], [3], [-2], [5], [1, 1, 3, 0, 1],
             [1, 1, 0, 3, 1]])


class Closed(unittest.TestCase):
    def check(self, bits, words, closed):
        with self.subTest(bits=bits, words=words):
            self.assertEqual(after(bits, words, (CLOSED,)), [[closed]])

    def test_no_words(self):
        for bits in range(1, 7):
            self.check(bits, [], 1)

    def test_one_word_with_itself(self):
        for bits in range(1, 7):
            self.check(bits, [0], 1)
            for word in range(1, 1 << bits):
                self.check(bits, [word], 0)

    def test_some_words(self):
        self.check(3, [0, 5], 1)
        self.check(3, [0, 3, 5], 0)
        self.check(3, [0, 3, 5, 6], 1)
        self.check(6, [0, 15, 51, 60], 1)
        self.check(6, [0, 15, 51, 60, 63], 0)

    def test_a_word_with_itself_is_asked_of_many_words_too(self):
        self.check(2, [1, 2, 3], 0)
        self.check(4, [3, 5, 6], 0)

    def test_all_words(self):
        for bits in range(1, 7):
            self.check(bits, list(range(1 << bits)), 1)

    def test_opposites(self):
        self.check(1, [0, 1], 1)
        self.check(4, [0, 15], 1)
        self.check(4, [6, 9], 0)

    def test_even_weights_and_odd(self):
        for bits in range(1, 7):
            self.check(bits, even_weights(bits), 1)
            self.check(bits, [word for word in range(1 << bits) if word not in even_weights(bits)], 0)

    def test_closed_moved_and_the_rest(self):
        self.assertEqual(
            after(3, [3, 5], (CLOSED,), (CLOSE,), (CLOSED,), (MOVE, 6), (CLOSED,), (MOVE, 1), (CLOSED,), (MOVE, 1),
                  (SWAP, 0, 2), (CLOSED,), (REST,), (CLOSED,), (PUT, 0), (CLOSED,)),
            [[0], [4], [1], [0], [1], [0], [0], [0], [0], [1], [4], [0], [5], [0]])


if __name__ == "__main__":
    unittest.main()
