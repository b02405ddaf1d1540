"""tilt, patterns, even, strength, uneven."""

import unittest

from tests.helper import (
    CLOSE, EVEN, MOVE, PATTERNS, PUT, REST, STRENGTH, SUMS, SWAP, TILT, UNEVEN, after, each, even_weights)


class Tilt(unittest.TestCase):
    def check(self, bits, words, tilts):
        """The tilts of 0, 1 and so on, as many as are told."""
        with self.subTest(bits=bits, words=words):
            self.assertEqual(
                each(bits, words, [(TILT, u) for u in range(len(tilts))]), [[0, tilt] for tilt in tilts])

    def test_some_words(self):
        self.check(3, [1, 6], [2, 0, 0, -2, 0, -2, 2, 0])
        self.check(2, [0, 1, 3], [3, -1, 1, 1])
        self.check(3, [1, 2, 4, 7], [4, 0, 0, 0, 0, 0, 0, -4])

    def test_no_words_and_one(self):
        for bits in range(1, 7):
            self.check(bits, [], [0] * (1 << bits))
            self.check(bits, [0], [1] * (1 << bits))
        self.check(1, [1], [1, -1])
        self.check(3, [3], [1, -1, -1, 1, 1, -1, -1, 1])

    def test_all_words(self):
        for bits in range(1, 7):
            self.check(bits, list(range(1 << bits)), [1 << bits] + [0] * ((1 << bits) - 1))

    def test_opposites(self):
        self.check(2, [0, 3], [2, 0, 0, 2])
        self.check(2, [1, 2], [2, 0, 0, -2])
        self.check(3, [0, 7], [2, 0, 0, 2, 0, 2, 2, 0])

    def test_even_weights(self):
        for bits in range(1, 7):
            many = 1 << (bits - 1)
            self.check(bits, even_weights(bits), [many] + [0] * ((1 << bits) - 2) + [many])

    def test_the_rest_and_moved(self):
        self.assertEqual(
            after(2, [0, 1, 3], (TILT, 0), (TILT, 1), (REST,), (TILT, 0), (TILT, 1), (MOVE, 3), (TILT, 0), (TILT, 1)),
            [[0, 3], [0, -1], [1], [0, 1], [0, 1], [0], [0, 1], [0, -1]])


class Patterns(unittest.TestCase):
    def check(self, bits, words, u, counts):
        with self.subTest(bits=bits, words=words, u=u):
            self.assertEqual(after(bits, words, (PATTERNS, u)), [[len(counts)] + counts])

    def test_patterns_rise(self):
        self.check(3, [1, 2, 6], 6, [1, 1, 0, 1])
        self.check(3, [1, 2, 6], 5, [1, 1, 1, 0])
        self.check(3, [1, 2, 6], 3, [0, 1, 2, 0])
        self.check(3, [1, 2, 6], 7, [0, 1, 1, 0, 0, 0, 1, 0])
        self.check(3, [1, 2, 6], 4, [2, 1])
        self.check(6, [32, 33, 62], 33, [0, 0, 2, 1])

    def test_no_places(self):
        for bits in range(1, 7):
            for words in ([], [1], [0, 1], list(range(1 << bits))):
                self.check(bits, words, 0, [len(words)])

    def test_no_words(self):
        self.check(1, [], 1, [0, 0])
        self.check(6, [], 63, [0] * 64)
        self.check(6, [], 42, [0] * 8)

    def test_one_bit(self):
        self.check(1, [0], 1, [1, 0])
        self.check(1, [1], 1, [0, 1])
        self.check(1, [0, 1], 1, [1, 1])

    def test_all_words(self):
        self.check(6, list(range(64)), 63, [1] * 64)
        self.check(6, list(range(64)), 40, [16] * 4)

    def test_all_places_show_the_words(self):
        self.check(4, [0, 3, 12], 15, [1, 0, 0, 1, 0, 0, 0, 0, 0, 0, 0, 0, 1, 0, 0, 0])

    def test_opposites_and_even_weights(self):
        self.check(4, [5, 10], 3, [0, 1, 1, 0])
        self.check(4, even_weights(4), 7, [1] * 8)
        self.check(4, even_weights(4), 9, [2] * 4)

    def test_closed_moved_and_the_rest(self):
        self.assertEqual(
            after(3, [3], (CLOSE,), (PATTERNS, 3), (MOVE, 1), (PATTERNS, 3), (REST,), (PATTERNS, 3)),
            [[2], [4, 1, 0, 0, 1], [0], [4, 0, 1, 1, 0], [6], [4, 2, 1, 1, 2]])


class Even(unittest.TestCase):
    def check(self, bits, words, places):
        """It is even on these sets of places and on no others."""
        with self.subTest(bits=bits, words=words):
            self.assertEqual(
                each(bits, words, [(EVEN, u) for u in range(1 << bits)]),
                [[1 if u in places else 0] for u in range(1 << bits)])

    def test_some_words(self):
        self.check(3, [1, 6], [0, 1, 2, 4])
        self.check(3, [1, 2, 6], [0])
        self.check(3, [0, 1, 2, 3], [0, 1, 2, 3])
        self.check(2, [0, 1, 3], [0])

    def test_the_tilt_of_all_its_places_may_be_0_where_it_is_not_even(self):
        self.check(3, [0, 1], [0, 1])
        self.assertEqual(after(3, [0, 1], (TILT, 5), (EVEN, 5)), [[0, 0], [0]])

    def test_no_words_one_and_all(self):
        for bits in range(1, 7):
            self.check(bits, [], range(1 << bits))
            self.check(bits, list(range(1 << bits)), range(1 << bits))
            self.check(bits, [1], [0])

    def test_opposites(self):
        self.check(1, [0, 1], [0, 1])
        self.check(2, [0, 3], [0, 1, 2])
        self.check(4, [5, 10], [0, 1, 2, 4, 8])

    def test_even_weights(self):
        for bits in range(1, 7):
            self.check(bits, even_weights(bits), range((1 << bits) - 1))

    def test_closed_moved_and_the_rest(self):
        self.assertEqual(
            after(4, [3, 12], (EVEN, 5), (CLOSE,), (EVEN, 5), (EVEN, 3), (MOVE, 1), (EVEN, 5), (EVEN, 3), (REST,),
                  (EVEN, 5), (EVEN, 3)),
            [[0], [4], [1], [0], [0], [1], [0], [12], [1], [0]])


class StrengthAndUneven(unittest.TestCase):
    def check(self, bits, words, strength, uneven):
        with self.subTest(bits=bits, words=words):
            self.assertEqual(after(bits, words, (STRENGTH,), (UNEVEN,)), [[strength], uneven])

    def test_one_word(self):
        for bits in range(1, 7):
            for word in (0, 1, (1 << bits) - 1):
                self.check(bits, [word], 0, [1, 1])

    def test_none_and_all(self):
        for bits in range(1, 7):
            self.check(bits, [], bits, [-33])
            self.check(bits, list(range(1 << bits)), bits, [-33])

    def test_opposites(self):
        self.check(1, [0, 1], 1, [-33])
        for bits in range(2, 7):
            self.check(bits, [0, (1 << bits) - 1], 1, [2, 3])
            self.check(bits, [1, (1 << bits) - 2], 1, [2, 3])

    def test_even_weights_and_odd(self):
        for bits in range(1, 7):
            odd = [word for word in range(1 << bits) if word not in even_weights(bits)]
            self.check(bits, even_weights(bits), bits - 1, [bits, (1 << bits) - 1])
            self.check(bits, odd, bits - 1, [bits, (1 << bits) - 1])

    def test_the_fewest_places_ahead_of_the_least_number(self):
        self.check(3, [0, 3], 0, [1, 4])
        self.check(4, [0, 1, 2, 3, 4, 5, 6, 7], 0, [1, 8])

    def test_the_least_number_of_the_fewest_places(self):
        self.check(3, [0, 1], 0, [1, 2])
        self.check(4, [0, 1, 2, 3, 12, 13, 14, 15], 1, [2, 12])
        self.check(4, [0, 6, 9, 15], 1, [2, 6])
        self.check(6, [0, 15, 51, 60, 21, 26, 38, 41], 2, [3, 22])

    def test_words_that_are_no_multiple_of_the_patterns(self):
        self.check(2, [0, 1, 3], 0, [1, 1])
        self.check(3, [0, 1, 2, 4, 6, 7], 0, [1, 1])
        self.check(3, [0, 1, 2, 5, 6, 7], 1, [2, 3])

    def test_words_changed_between(self):
        self.assertEqual(
            after(3, [3, 5], (STRENGTH,), (UNEVEN,), (CLOSE,), (STRENGTH,), (UNEVEN,), (MOVE, 1), (STRENGTH,), (UNEVEN,),
                  (REST,), (STRENGTH,), (UNEVEN,), (PUT, 7), (STRENGTH,), (UNEVEN,)),
            [[0], [1, 1], [4], [2], [3, 7], [0], [2], [3, 7], [4], [2], [3, 7], [5], [0], [1, 1]])

    def test_exchanged_bits_exchange_the_places(self):
        self.assertEqual(
            after(4, [0, 3], (UNEVEN,), (SWAP, 1, 2), (UNEVEN,), (STRENGTH,), (SUMS,)),
            [[1, 4], [0], [1, 2], [0], [5, 4, 8, 8, 8, 4]])


if __name__ == "__main__":
    unittest.main()
