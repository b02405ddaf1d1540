"""The object: begun or not, begun again, and what a refusal leaves as it was."""

import unittest

from tests.helper import (
    ALIKE, BEGIN, BIGGEST, CLOSE, CLOSED, DIST, EVEN, FARTHEST, LEAST, MANY, MOVE, OFF, PATTERNS, PUT, REST, SHOW,
    SIGN, STRENGTH, SUMS, SWAP, TAKE, TILT, TWOS, UNEVEN, WORDS, after, ask, shown)

OTHERS = [
    (PUT, 0), (TAKE, 0), (REST,), (MOVE, 0), (SWAP, 0, 0), (CLOSE,), (MANY,), (WORDS,), (DIST, 0, 0), (OFF, 0),
    (LEAST,), (TWOS,), (SUMS,), (SIGN, 0, 0), (TILT, 0), (PATTERNS, 0), (EVEN, 0), (STRENGTH,), (UNEVEN,),
    (CLOSED,), (FARTHEST,), (ALIKE, 0)]


class NotBegun(unittest.TestCase):
    def test_every_other_call_alone(self):
        for call in OTHERS:
            with self.subTest(call=call):
                self.assertEqual(ask(call), [[-61]])

    def test_all_of_them_behind_one_another(self):
        self.assertEqual(ask(*OTHERS), [[-61]] * 22)

    def test_told_ahead_of_every_other_refusal(self):
        for call in OTHERS:
            wrong = call[:1] + (BIGGEST,) * (len(call) - 1)
            with self.subTest(call=wrong):
                self.assertEqual(ask(wrong), [[-61]])

    def test_a_refused_begin_does_not_begin(self):
        for call in OTHERS:
            with self.subTest(call=call):
                self.assertEqual(ask((BEGIN, 7), call, (BEGIN, 0), call), [[-22], [-61], [-22], [-61]])

    def test_what_was_asked_before_is_not_done(self):
        self.assertEqual(ask((PUT, 1), (REST,), (BEGIN, 2), *SHOW), [[-61], [-61], [0]] + shown(2, []))


class Begin(unittest.TestCase):
    def test_each_count_of_bits(self):
        for bits in range(1, 7):
            with self.subTest(bits=bits):
                self.assertEqual(ask((BEGIN, bits), *SHOW), [[0]] + shown(bits, []))

    def test_no_such_count_of_bits(self):
        for bits in (0, 7, 8, 31, 32, 64, BIGGEST):
            with self.subTest(bits=bits):
                self.assertEqual(ask((BEGIN, bits)), [[-22]])

    def test_begin_again_has_no_words(self):
        for first in range(1, 7):
            for second in range(1, 7):
                with self.subTest(first=first, second=second):
                    self.assertEqual(
                        ask((BEGIN, first), (PUT, 1), (REST,), (BEGIN, second), *SHOW),
                        [[0], [1], [(1 << first) - 1], [0]] + shown(second, []))

    def test_begin_again_counts_for_the_rest(self):
        self.assertEqual(ask((BEGIN, 6), (BEGIN, 1), (REST,), (WORDS,)), [[0], [0], [2], [2, 0, 1]])

    def test_a_refused_begin_changes_nothing(self):
        for bits in (0, 7, BIGGEST):
            with self.subTest(bits=bits):
                self.assertEqual(after(3, [2, 5], (BEGIN, bits), *SHOW), [[-22]] + shown(3, [2, 5]))


class Refusals(unittest.TestCase):
    def check(self, bits, words, call, number):
        with self.subTest(bits=bits, words=words, call=call):
            self.assertEqual(after(bits, words, call, *SHOW), [[number]] + shown(bits, words))

    def test_a_bit_that_there_is_not(self):
        for bits in range(1, 7):
            for words in ([], [0], [0, 1]):
                for wrong in (1 << bits, (1 << bits) + 1, 1 << 30, BIGGEST):
                    for call in (PUT, TAKE, MOVE, OFF):
                        self.check(bits, words, (call, wrong), -22)
                    self.check(bits, words, (DIST, wrong, 0), -22)
                    self.check(bits, words, (DIST, 0, wrong), -22)
                    self.check(bits, words, (DIST, wrong, wrong), -22)

    def test_the_greatest_word_is_no_wrong_one(self):
        for bits in range(1, 7):
            word = (1 << bits) - 1
            with self.subTest(bits=bits):
                self.assertEqual(
                    after(bits, [], (PUT, word), (OFF, word), (DIST, word, 0), (DIST, 0, word), (MOVE, word),
                          (MOVE, word), (TAKE, word)),
                    [[1], [0, 1], [bits], [bits], [0], [0], [0]])

    def test_put_of_a_word_that_is_there(self):
        self.check(3, [1, 4, 6], (PUT, 4), -17)
        self.check(1, [0], (PUT, 0), -17)
        self.check(6, list(range(64)), (PUT, 63), -17)

    def test_take_of_a_word_that_is_not(self):
        self.check(3, [1, 4, 6], (TAKE, 5), -2)
        self.check(1, [], (TAKE, 0), -2)

    def test_swap_with_no_such_bit(self):
        for bits in range(1, 7):
            for wrong in (bits, bits + 1, BIGGEST):
                for words in ([], [0, 1]):
                    self.check(bits, words, (SWAP, wrong, 0), -2)
                    self.check(bits, words, (SWAP, 0, wrong), -2)
                    self.check(bits, words, (SWAP, wrong, wrong), -2)

    def test_off_with_no_words(self):
        self.check(4, [], (OFF, 3), -6)

    def test_least_with_fewer_than_two(self):
        self.check(4, [], (LEAST,), -33)
        self.check(4, [9], (LEAST,), -33)

    def test_looking_changes_nothing(self):
        looks = [(MANY,), (WORDS,), (DIST, 3, 9), (OFF, 7), (LEAST,)]
        for words in ([0, 15], [1, 2, 4, 8], list(range(16))):
            with self.subTest(words=words):
                self.assertEqual(after(4, words, *looks, *SHOW)[len(looks):], shown(4, words))


if __name__ == "__main__":
    unittest.main()
