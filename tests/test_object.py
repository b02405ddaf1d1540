"""The object: begun or not, begun again, and what a refusal leaves as it was."""

import unittest

from tests.helper import (
    ALIKE, BEGIN, BIGGEST, CLOSE, CLOSED, DIST, EVEN, FARTHEST, LEAST, MANY, MOVE, OFF, PATTERNS, PUT, REST, SHOW,
    SIGN, STRENGTH, SUMS, SWAP, TAKE, TILT, TWOS, UNEVEN, WORDS, after, ask, shown)

OTHERS = [
    (PUT, 0), (TAKE, 0), (REST,), (MOVE, 0), (SWAP, 0, 0), (CLOSE,), (MANY,), (WORDS,), (DIST, 0, 0), (OFF, 0),
    (LEAST,), (TWOS,), (SUMS,), (SIGN, 0, 0), (TILT, 0), (PATTERNS, 0), (EVEN, 0), (STRENGTH,), (UNEVEN,),
    (CLOSED,), (FARTHEST,), (ALIKE, 0)]


class NotBegun(unittest.TestCase):
    def test_every_other_call_alone(self):
        for call in OTHERS:
            with self.subTest(call=call):
                self.assertEqual(ask(call), [[-61]])

    def test_all_of_them_behind_one_another(self):
        self.assertEqual(ask(*OTHERS), [[-61]] * 22)

    def test_told_ahead_of_every_other_refusal(self):
        for call in OTHERS:
            wrong = call[:1] + (BIGGEST,) * (len(call) - 1)
            with self.subTest(call=wrong):
                self.assertEqual(ask(wrong), [[-61]])

    def test_a_refused_begin_does_not_begin(self):
        for call in OTHERS:
            with self.subTest(call=call):
                self.assertEqual(ask((BEGIN, 7), call, (BEGIN, 0), call), [[-22], [-61], [-22], [-61]])

    def test_what_was_asked_before_is_not_done(self):
        self.assertEqual(ask((PUT, 1), (REST,), (BEGIN, 2), *SHOW), [[-61], [-61], [0]] + shown(2, []))


class Begin(unittest.TestCase):
    def test_each_count_of_bits(self):
        for bits in range(1, 7):
            with self.subTest(bits=bits):
                self.assertEqual(ask((BEGIN, bits), *SHOW), [[0]] + shown(bits, []))

    def test_no_such_count_of_bits(self):
        for bits in (0, 7, 8, 31, 32, 64, BIGGEST):
            with self.subTest(bits=bits):
                self.assertEqual(ask((BEGIN, bits)), [[-22]])

    def test_begin_again_has_no_words(self):
        for first in range(1, 7):
            for second in range(1, 7):
                with self.subTest(first=first, second=second):
                    self.assertEqual(
                        ask((BEGIN, first), (PUT, 1), (REST,), (BEGIN, second), *SHOW),
                        [[0], [1], [(1 << first) - 1], [0]] + shown(second, []))

    def test_begin_again_counts_for_the_rest(self):
        self.assertEqual(ask((BEGIN, 6), (BEGIN, 1), (REST,), (WORDS,)), [[0], [0], [2], [2, 0, 1]])

    def test_a_refused_begin_changes_nothing(self):
        for bits in (0, 7, BIGGEST):
            with self.subTest(bits=bits):
                self.assertEqual(after(3, [2, 5], (BEGIN, bits), *SHOW), [[-22]] + shown(3, [2, 5]))


class Refusals(unittest.TestCase):
    def check(self, bits, words, call, number):
        with self.subTest(bits=bits, words=words, call=call):
            self.assertEqual(after(bits, words, call, *SHOW), [[number]] + shown(bits, words))

    def test_a_bit_that_there_is_not(self):
        for bits in range(1, 7):
            for words in ([], [0], [0, 1]):
                for wrong in (1 << bits, (1 << bits) + 1, 1 << 30, BIGGEST):
                    for call in (PUT, TAKE, MOVE, OFF, TILT, PATTERNS, EVEN, ALIKE):
                        self.check(bits, words, (call, wrong), -22)
                    self.check(bits, words, (DIST, wrong, 0), -22)
                    self.check(bits, words, (DIST, 0, wrong), -22)
                    self.check(bits, words, (DIST, wrong, wrong), -22)

    def test_the_greatest_word_is_no_wrong_one(self):
        for bits in range(1, 7):
            word = (1 << bits) - 1
            with self.subTest(bits=bits):
                self.assertEqual(
                    after(bits, [], (PUT, word), (OFF, word), (DIST, word, 0), (DIST, 0, word), (MOVE, word),
                          (MOVE, word), (TAKE, word)),
                    [[1], [0, 1], [bits], [bits], [0], [0], [0]])
                self.assertEqual(
                    after(bits, [word], (TILT, word), (PATTERNS, word), (EVEN, word), (ALIKE, word)),
                    [[0, 1 if bits % 2 == 0 else -1], [word + 1] + [0] * word + [1], [0], [1, 1] + [0] * bits])

    def test_put_of_a_word_that_is_there(self):
        self.check(3, [1, 4, 6], (PUT, 4), -17)
        self.check(1, [0], (PUT, 0), -17)
        self.check(6, list(range(64)), (PUT, 63), -17)

    def test_take_of_a_word_that_is_not(self):
        self.check(3, [1, 4, 6], (TAKE, 5), -2)
        self.check(1, [], (TAKE, 0), -2)

    def test_swap_with_no_such_bit(self):
        for bits in range(1, 7):
            for wrong in (bits, bits + 1, BIGGEST):
                for words in ([], [0, 1]):
                    self.check(bits, words, (SWAP, wrong, 0), -2)
                    self.check(bits, words, (SWAP, 0, wrong), -2)
                    self.check(bits, words, (SWAP, wrong, wrong), -2)

    def test_off_with_no_words(self):
        self.check(4, [], (OFF, 3), -6)

    def test_least_with_fewer_than_two(self):
        self.check(4, [], (LEAST,), -33)
        self.check(4, [9], (LEAST,), -33)

    def test_farthest_with_no_words(self):
        for bits in range(1, 7):
            self.check(bits, [], (FARTHEST,), -6)

    def test_alike_of_a_word_that_is_not_there(self):
        for bits in range(1, 7):
            self.check(bits, [], (ALIKE, 0), -2)
            self.check(bits, [0], (ALIKE, 1), -2)
        self.check(3, [1, 4, 6], (ALIKE, 5), -2)
        self.check(6, list(range(63)), (ALIKE, 63), -2)

    def test_sign_above_the_bits(self):
        for bits in range(1, 7):
            for words in ([], [0, 1]):
                for wrong in (bits + 1, bits + 2, 64, BIGGEST):
                    self.check(bits, words, (SIGN, wrong, 0), -22)
                    self.check(bits, words, (SIGN, 0, wrong), -22)
                    self.check(bits, words, (SIGN, bits, wrong), -22)
                    self.check(bits, words, (SIGN, wrong, bits), -22)
                    self.check(bits, words, (SIGN, wrong, wrong), -22)

    def test_sign_of_just_the_bits_is_no_wrong_one(self):
        for bits in range(1, 7):
            with self.subTest(bits=bits):
                self.assertEqual(
                    after(bits, [], (SIGN, bits, 0), (SIGN, 0, bits), (SIGN, bits, bits)),
                    [[0, 1], [0, 1], [0, 1 if bits % 2 == 0 else -1]])

    def test_uneven_where_it_is_even_everywhere(self):
        for bits in range(1, 7):
            self.check(bits, [], (UNEVEN,), -33)
            self.check(bits, list(range(1 << bits)), (UNEVEN,), -33)

    def test_after_a_refusal_every_look_is_as_it_was(self):
        refused = [
            (BEGIN, 7), (PUT, 5), (PUT, 8), (TAKE, 4), (TAKE, 9), (MOVE, 8), (SWAP, 0, 3), (DIST, 8, 0), (OFF, 8),
            (SIGN, 4, 0), (SIGN, 0, 4), (TILT, 8), (PATTERNS, 8), (EVEN, 8), (ALIKE, 8), (ALIKE, 4)]
        looks = [
            (WORDS,), (LEAST,), (TWOS,), (SUMS,), (SIGN, 3, 1), (TILT, 5), (PATTERNS, 6), (EVEN, 1), (STRENGTH,),
            (UNEVEN,), (CLOSED,), (FARTHEST,), (ALIKE, 5)]
        ahead = after(3, [0, 5, 6], *looks)
        for call in refused:
            with self.subTest(call=call):
                out = after(3, [0, 5, 6], call, *looks)
                self.assertTrue(len(out[0]) == 1 and out[0][0] < 0)
                self.assertEqual(out[1:], ahead)


class Looking(unittest.TestCase):
    def test_looking_changes_nothing(self):
        looks = [
            (MANY,), (WORDS,), (DIST, 3, 9), (OFF, 7), (LEAST,), (TWOS,), (SUMS,), (SIGN, 2, 3), (TILT, 6),
            (PATTERNS, 11), (EVEN, 5), (STRENGTH,), (UNEVEN,), (CLOSED,), (FARTHEST,), (ALIKE, 0), (ALIKE, 8)]
        for words in ([], [8], [0, 15], [1, 2, 4, 8], [0, 3, 5, 6, 9, 10, 12, 15], list(range(16))):
            for look in looks:
                with self.subTest(words=words, look=look):
                    out = after(4, words, (WORDS,), look, *SHOW, look)
                    self.assertEqual(out[:1] + out[2:-1], [[len(words)] + words] + shown(4, words))
                    self.assertEqual(out[1], out[-1])

    def test_no_look_hangs_on_one_ahead_of_it(self):
        looks = [(TWOS,), (SUMS,), (TILT, 3), (PATTERNS, 3), (STRENGTH,), (UNEVEN,), (CLOSED,), (FARTHEST,), (ALIKE, 1)]
        alone = [after(3, [1, 2, 7], look)[0] for look in looks]
        self.assertEqual(after(3, [1, 2, 7], *looks), alone)
        self.assertEqual(after(3, [1, 2, 7], *looks[::-1]), alone[::-1])


if __name__ == "__main__":
    unittest.main()
