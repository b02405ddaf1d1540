"""Each call after the document's words, slowly: words are sets of bits, and nothing is drawn from the package."""

import functools
import itertools

from tests.helper import (
    ALIKE, BEGIN, CLOSE, CLOSED, DIST, EVEN, FARTHEST, LEAST, MANY, MOVE, OFF, PATTERNS, PUT, REST, SIGN, STRENGTH, SUMS,
    SWAP, TAKE, TILT, TWOS, UNEVEN, WORDS)


@functools.lru_cache(None)
def ones(word):
    return frozenset(bit for bit in range(31) if word & (1 << bit))


def number(places):
    return sum(1 << place for place in places)


@functools.lru_cache(None)
def far(x, y):
    return len(ones(x) ^ ones(y))


def subsets(places):
    """All sets of some of the places, as sets, in the order of their numbers."""
    chosen = [frozenset(some) for size in range(len(places) + 1) for some in itertools.combinations(places, size)]
    return sorted(chosen, key=number)


def swapped(word, i, j):
    return number({j if bit == i else i if bit == j else bit for bit in ones(word)})


def closed_up(words):
    held = set(words)
    while True:
        more = held | {x ^ y for x in held for y in held}
        if more == held:
            return held
        held = more


def off(words, x):
    if not words:
        return [-6]
    nearest = min(far(x, word) for word in words)
    return [nearest, len([word for word in words if far(x, word) == nearest])]


def least(words):
    if len(words) < 2:
        return [-33]
    return [min(far(x, y) for x, y in itertools.combinations(words, 2))]


def farthest(bits, words):
    if not words:
        return [-6]
    most = -1
    for word in range(1 << bits):
        if off(words, word)[0] > most:
            most, first, many = off(words, word)[0], word, 0
        if off(words, word)[0] == most:
            many += 1
    return [most, first, many]


def seen_from(bits, words, x):
    return [len([word for word in words if far(x, word) == i]) for i in range(bits + 1)]


def alike(bits, words, x):
    if x not in words:
        return [-2]
    seen = seen_from(bits, words, x)
    return [len([word for word in words if seen_from(bits, words, word) == seen])] + seen


def closed(words):
    return [1 if {x ^ y for x in words for y in words} <= set(words) else 0]


def twos(bits, words):
    out = [0] * (bits + 1)
    for x, y in itertools.product(words, words):
        out[far(x, y)] += 1
    return out


def sign_sum(bits, k, i):
    """The told ones are the last i here: any will do."""
    told = set(range(bits - i, bits))
    return sum(1 if len(told.intersection(some)) % 2 == 0 else -1 for some in itertools.combinations(range(bits), k))


def sums(bits, words):
    at = twos(bits, words)
    return [sum(at[i] * sign_sum(bits, k, i) for i in range(bits + 1)) for k in range(bits + 1)]


def tilt(words, u):
    evenly = [word for word in words if len(ones(word) & ones(u)) % 2 == 0]
    return len(evenly) - (len(words) - len(evenly))


def patterns(words, u):
    return [len([word for word in words if ones(word) & ones(u) == some]) for some in subsets(ones(u))]


def even(words, u):
    return len(set(patterns(words, u))) == 1


def strength(bits, words):
    def is_strong(t):
        return all(even(words, number(some)) for some in itertools.combinations(range(bits), t))
    return max(t for t in range(bits + 1) if is_strong(t))


def uneven(bits, words):
    tilted = [u for u in range(1 << bits) if not even(words, u)]
    if not tilted:
        return [-33]
    fewest = min(len(ones(u)) for u in tilted)
    return [fewest, min(u for u in tilted if len(ones(u)) == fewest)]


class Slow:
    """An object as the document tells it, one call at a time."""

    def __init__(self):
        self.bits = None
        self.words = []

    def become(self, words):
        self.words = sorted(words)
        return [len(self.words)]

    def answer(self, call):
        which, told = call[0], call[1:]
        if which == BEGIN:
            return self.begin(told[0])
        if self.bits is None:
            return [-61]
        if which in (PUT, TAKE, MOVE, DIST, OFF, TILT, PATTERNS, EVEN, ALIKE):
            if any(max(ones(x), default=0) >= self.bits for x in told):
                return [-22]
        if which in (PUT, TAKE, REST, MOVE, SWAP, CLOSE):
            return self.change(which, told)
        return self.look(which, told)

    def begin(self, bits):
        if bits not in range(1, 7):
            return [-22]
        self.bits, self.words = bits, []
        return [0]

    def change(self, which, told):
        held = set(self.words)
        if which == PUT:
            return [-17] if told[0] in held else self.become(held | {told[0]})
        if which == TAKE:
            return self.become(held - {told[0]}) if told[0] in held else [-2]
        if which == REST:
            return self.become(set(range(1 << self.bits)) - held)
        if which == CLOSE:
            return self.become(closed_up(held))
        if which == MOVE:
            self.become({number(ones(word) ^ ones(told[0])) for word in held})
            return [0]
        if max(told) >= self.bits:
            return [-2]
        self.become({swapped(word, told[0], told[1]) for word in held})
        return [0]

    def look(self, which, told):
        bits, words = self.bits, self.words
        if which == SIGN:
            return [-22] if max(told) > bits else [0, sign_sum(bits, told[0], told[1])]
        return {
            MANY: lambda: [len(words)],
            WORDS: lambda: [len(words)] + words,
            DIST: lambda: [far(told[0], told[1])],
            OFF: lambda: off(words, told[0]),
            LEAST: lambda: least(words),
            TWOS: lambda: [bits + 1] + twos(bits, words),
            SUMS: lambda: [bits + 1] + sums(bits, words),
            TILT: lambda: [0, tilt(words, told[0])],
            PATTERNS: lambda: [1 << len(ones(told[0]))] + patterns(words, told[0]),
            EVEN: lambda: [1 if even(words, told[0]) else 0],
            STRENGTH: lambda: [strength(bits, words)],
            UNEVEN: lambda: uneven(bits, words),
            CLOSED: lambda: closed(words),
            FARTHEST: lambda: farthest(bits, words),
            ALIKE: lambda: alike(bits, words, told[0]),
        }[which]()


def some_sets():
    """All sets of words of one to three bits, and some of four to six."""
    for bits in range(1, 4):
        for chosen in range(1 << (1 << bits)):
            yield bits, [word for word in range(1 << bits) if chosen & (1 << word)]
    for bits in range(4, 7):
        every = range(1 << bits)
        for step in range(2, 12):
            yield bits, [word for word in every if word * step % 7 in (1, 3)]
            yield bits, [word for word in every if word % step == step - 1]
            yield bits, [word for word in every if far(word, step) % 3 == 0]
        for weight in range(bits + 1):
            yield bits, [word for word in every if far(word, 0) == weight]
        yield bits, []
        yield bits, list(every)
        yield bits, [0, every[-1]]
        yield bits, [word for word in every if far(word, 0) % 2 == 0]
        yield bits, sorted(closed_up([3, 6]))
        yield bits, sorted(word ^ 1 for word in closed_up([3, 12]))
