"""farwords.sums.answers: the form of what goes in and of what is given back."""

import contextlib
import io
import unittest

from farwords.sums import answers
from tests.helper import (
    ALIKE, BEGIN, BIGGEST, CLOSE, CLOSED, DIST, EVEN, FARTHEST, LEAST, MANY, MOVE, OFF, PATTERNS, PUT, REST, SIGN,
    STRENGTH, SUMS, SWAP, TAKE, TILT, TWOS, UNEVEN, WORDS, ask, flat)


class ReadOnly(list):
    """A list that tells when it is changed, even for a while."""

    def refuse(self, *rest, **named):
        raise RuntimeError("the list handed in was changed")

    append = extend = insert = pop = remove = clear = sort = reverse = refuse
    __setitem__ = __delitem__ = __iadd__ = __imul__ = refuse


LINE = flat([
    (BEGIN, 3), (PUT, 5), (PUT, 2), (PUT, 5), (WORDS,), (OFF, 0), (LEAST,), (MOVE, 1), (SWAP, 0, 2), (DIST, 8, 0),
    (DIST, 1, 6), (CLOSE,), (REST,), (WORDS,), (TAKE, 7), (TAKE, 0), (MANY,), (TWOS,), (SUMS,), (SIGN, 1, 3),
    (TILT, 6), (PATTERNS, 3), (EVEN, 1), (STRENGTH,), (UNEVEN,), (CLOSED,), (FARTHEST,), (ALIKE, 2)])
GIVEN = [
    1, 0, 1, 1, 1, 2, 1, -17, 3, 2, 2, 5, 2, 1, 1, 1, 3, 1, 0, 1, 0, 1, -22,
    1, 3, 1, 4, 1, 4, 5, 4, 2, 3, 4, 5, 1, -2, 1, -2, 1, 4, 5, 4, 4, 4, 4, 4, 5, 4, 16, 0, 16, 0, 2, 0, -3,
    2, 0, -4, 5, 4, 1, 1, 1, 1, 1, 1, 1, 1, 2, 2, 6, 1, 0, 3, 1, 0, 4, 5, 4, 1, 1, 1, 1]


class Interface(unittest.TestCase):
    def test_how_many_are_answered_stands_ahead(self):
        self.assertEqual(answers([BEGIN, 2]), [1, 0])
        self.assertEqual(answers([MANY]), [1, -61])
        self.assertEqual(answers([BEGIN, 2, WORDS]), [1, 0, 1, 0])
        self.assertEqual(answers([BEGIN, 2, REST, WORDS, OFF, 1]), [1, 0, 1, 4, 5, 4, 0, 1, 2, 3, 2, 0, 1])
        self.assertEqual(answers([BEGIN, 2, OFF, 1, OFF, 4]), [1, 0, 1, -6, 1, -22])

    def test_how_many_are_answered_from_twos_on(self):
        begun = [BEGIN, 2, PUT, 0, PUT, 1]
        for call, given in (
                ([TWOS], [4, 3, 2, 2, 0]), ([SUMS], [4, 3, 4, 4, 0]), ([SIGN, 1, 2], [2, 0, -2]), ([TILT, 2], [2, 0, 2]),
                ([PATTERNS, 3], [5, 4, 1, 1, 0, 0]), ([PATTERNS, 0], [2, 1, 2]), ([EVEN, 1], [1, 1]), ([EVEN, 2], [1, 0]),
                ([STRENGTH], [1, 0]), ([UNEVEN], [2, 1, 2]), ([CLOSED], [1, 1]), ([FARTHEST], [3, 1, 2, 2]),
                ([ALIKE, 1], [4, 2, 1, 1, 0]), ([SIGN, 3, 0], [1, -22]), ([TILT, 4], [1, -22]), ([PATTERNS, 4], [1, -22]),
                ([EVEN, 4], [1, -22]), ([ALIKE, 4], [1, -22]), ([ALIKE, 2], [1, -2])):
            with self.subTest(call=call):
                self.assertEqual(answers(begun + call), [1, 0, 1, 1, 1, 2] + given)
        self.assertEqual(answers([BEGIN, 2, UNEVEN, FARTHEST]), [1, 0, 1, -33, 1, -6])

    def test_a_line_of_many_calls(self):
        self.assertEqual(answers(list(LINE)), GIVEN)

    def test_a_list_of_whole_numbers_is_given_back(self):
        given = answers(list(LINE))
        self.assertIs(type(given), list)
        for number in given:
            self.assertIs(type(number), int)

    def test_what_is_handed_in_is_not_changed(self):
        line = list(LINE)
        answers(line)
        self.assertEqual(line, LINE)
        self.assertEqual(answers(ReadOnly(LINE)), GIVEN)

    def test_nothing_is_kept_from_one_time_to_the_next(self):
        first = answers(list(LINE))
        self.assertEqual(answers([MANY, WORDS, LEAST]), [1, -61, 1, -61, 1, -61])
        self.assertEqual(answers([TWOS, ALIKE, 2, FARTHEST]), [1, -61, 1, -61, 1, -61])
        self.assertEqual(answers([BEGIN, 6, WORDS]), [1, 0, 1, 0])
        first.append(99)
        self.assertEqual(answers(list(LINE)), GIVEN)

    def test_what_is_given_back_is_new_each_time(self):
        self.assertIsNot(answers([MANY]), answers([MANY]))

    def test_words_told_once_stay_as_told(self):
        self.assertEqual(
            ask((BEGIN, 2), (PUT, 1), (WORDS,), (PUT, 0), (WORDS,), (TAKE, 1), (WORDS,)),
            [[0], [1], [1, 1], [2], [2, 0, 1], [1], [1, 0]])

    def test_nothing_is_printed(self):
        out = io.StringIO()
        with contextlib.redirect_stdout(out), contextlib.redirect_stderr(out):
            answers(list(LINE))
        self.assertEqual(out.getvalue(), "")

    def test_sixty_calls(self):
        calls = [(BEGIN, 6)] + [(PUT, word) for word in range(57)] + [(LEAST,), (WORDS,)]
        self.assertEqual(len(calls), 60)
        self.assertEqual(
            ask(*calls), [[0]] + [[many] for many in range(1, 58)] + [[1], [57] + list(range(57))])

    def test_sixty_calls_of_the_longest_answer(self):
        calls = [(BEGIN, 6), (REST,)] + [(WORDS,)] * 58
        self.assertEqual(ask(*calls), [[0], [64]] + [[64] + list(range(64))] * 58)
        calls = [(BEGIN, 6), (REST,)] + [(PATTERNS, 63)] * 58
        self.assertEqual(ask(*calls), [[0], [64]] + [[64] + [1] * 64] * 58)

    def test_sixty_calls_of_the_most_numbers(self):
        calls = [(BEGIN, 6)] + [(DIST, 63, 0), (SWAP, 5, BIGGEST), (DIST, 0, BIGGEST)] * 19 + [(SWAP, 0, 5)] * 2
        self.assertEqual(len(calls), 60)
        self.assertEqual(ask(*calls), [[0]] + [[6], [-2], [-22]] * 19 + [[0]] * 2)


if __name__ == "__main__":
    unittest.main()
