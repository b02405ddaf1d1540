"""All sets of words of one to three bits, and some of more, each call beside a slow one after the document's words."""

import itertools
import unittest

from tests.helper import CLOSE, DIST, LEAST, MANY, MOVE, OFF, PUT, REST, SHOW, SWAP, TAKE, WORDS, after, shown


def ones(word):
    return {bit for bit in range(6) if word & (1 << bit)}


def far(x, y):
    return len(ones(x) ^ ones(y))


def number(places):
    return sum(1 << place for place in places)


def slow_swap(word, i, j):
    return number({j if bit == i else i if bit == j else bit for bit in ones(word)})


def slow_close(words):
    held = set(words)
    while True:
        more = held | {x ^ y for x in held for y in held}
        if more == held:
            return held
        held = more


def slow_off(words, x):
    if not words:
        return [-6]
    nearest = min(far(x, word) for word in words)
    return [nearest, len([word for word in words if far(x, word) == nearest])]


def slow_least(words):
    if len(words) < 2:
        return [-33]
    return [min(far(x, y) for x, y in itertools.combinations(words, 2))]


def some_sets():
    for bits in range(1, 4):
        for chosen in range(1 << (1 << bits)):
            yield bits, [word for word in range(1 << bits) if chosen & (1 << word)]
    for bits in range(4, 7):
        every = range(1 << bits)
        for step in range(2, 12):
            yield bits, [word for word in every if word * step % 7 in (1, 3)]
            yield bits, [word for word in every if word % step == step - 1]
            yield bits, [word for word in every if far(word, step) % 3 == 0]
        for weight in range(bits + 1):
            yield bits, [word for word in every if far(word, 0) == weight]


class EverythingSmall(unittest.TestCase):
    def check_change(self, bits, words, call, first, become):
        become = sorted(become)
        with self.subTest(bits=bits, words=words, call=call):
            self.assertEqual(after(bits, words, call, *SHOW), [[first]] + shown(bits, become))

    def test_put_and_take(self):
        for bits, words in some_sets():
            for x in range(1 << min(bits, 3)):
                if x in words:
                    self.check_change(bits, words, (PUT, x), -17, words)
                    self.check_change(bits, words, (TAKE, x), len(words) - 1, set(words) - {x})
                else:
                    self.check_change(bits, words, (PUT, x), len(words) + 1, set(words) | {x})
                    self.check_change(bits, words, (TAKE, x), -2, words)

    def test_rest_and_close(self):
        for bits, words in some_sets():
            others = set(range(1 << bits)) - set(words)
            self.check_change(bits, words, (REST,), len(others), others)
            closed = slow_close(words)
            self.check_change(bits, words, (CLOSE,), len(closed), closed)

    def test_move(self):
        for bits, words in some_sets():
            for y in range(1 << min(bits, 3)):
                self.check_change(bits, words, (MOVE, y), 0, {number(ones(word) ^ ones(y)) for word in words})

    def test_swap(self):
        for bits, words in some_sets():
            for i in range(bits):
                for j in range(bits):
                    self.check_change(bits, words, (SWAP, i, j), 0, {slow_swap(word, i, j) for word in words})

    def test_looks(self):
        for bits, words in some_sets():
            xs = range(0, 1 << bits, 1 if bits < 5 else 5)
            calls = [(MANY,), (WORDS,), (LEAST,)] + [(OFF, x) for x in xs]
            with self.subTest(bits=bits, words=words):
                self.assertEqual(
                    after(bits, words, *calls),
                    [[len(words)], [len(words)] + words, slow_least(words)] + [slow_off(words, x) for x in xs])

    def test_dist(self):
        for bits in range(1, 7):
            for x in range(1 << bits):
                for y in range(1 << bits):
                    with self.subTest(bits=bits, x=x, y=y):
                        self.assertEqual(after(bits, [], (DIST, x, y)), [[far(x, y)]])

    def test_moved_or_swapped_distances_stay(self):
        for bits, words in some_sets():
            with self.subTest(bits=bits, words=words):
                least = slow_least(words)
                self.assertEqual(
                    after(bits, words, (MOVE, 1), (LEAST,), (SWAP, 0, bits - 1), (LEAST,)), [[0], least, [0], least])


if __name__ == "__main__":
    unittest.main()
