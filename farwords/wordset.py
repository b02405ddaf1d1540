"""The object that the calls are made on. Each call gives back the list of the numbers that are answered."""

from farwords.places import first_uneven, is_even, kth_sum, pattern_counts, sign_sum, tilt_of
from farwords.words import (
    closed_up, counts_from, counts_of_twos, distance, distances, exchanged, least_distance, missing, weight)

MOST_BITS = 6

NOT_THERE = -2
NO_WORDS = -6
ALREADY_THERE = -17
DOES_NOT_FIT = -22
NOT_TWO_WORDS = -33
EVEN_EVERYWHERE = -33


class WordSet:
    """So many bits, and the words there are, rising. It has 0 bits till it is begun."""

    def __init__(self):
        self.bits = 0
        self.there = []

    def is_begun(self):
        return self.bits > 0

    def fits(self, word):
        """Whether the word, or the set of places, has no bit that there isn't."""
        return word < (1 << self.bits)

    def begin(self, bits):
        if bits < 1 or bits > MOST_BITS:
            return [DOES_NOT_FIT]
        self.bits = bits
        self.there = []
        return [0]

    def put(self, x):
        if not self.fits(x):
            return [DOES_NOT_FIT]
        if x in self.there:
            return [ALREADY_THERE]
        self.there = sorted(self.there + [x])
        return self.many()

    def take(self, x):
        if not self.fits(x):
            return [DOES_NOT_FIT]
        if x not in self.there:
            return [NOT_THERE]
        self.there = [word for word in self.there if word != x]
        return self.many()

    def rest(self):
        self.there = missing(self.bits, self.there)
        return self.many()

    def move(self, y):
        if not self.fits(y):
            return [DOES_NOT_FIT]
        self.there = sorted([word ^ y for word in self.there])
        return [0]

    def swap(self, i, j):
        if i >= self.bits or j >= self.bits:
            return [NOT_THERE]
        self.there = sorted([exchanged(word, i, j) for word in self.there])
        return [0]

    def close(self):
        self.there = closed_up(self.there)
        return self.many()

    def many(self):
        return [len(self.there)]

    def words(self):
        return [len(self.there)] + self.there

    def dist(self, x, y):
        if not self.fits(x) or not self.fits(y):
            return [DOES_NOT_FIT]
        return [distance(x, y)]

    def off(self, x):
        if not self.fits(x):
            return [DOES_NOT_FIT]
        if len(self.there) == 0:
            return [NO_WORDS]
        far = distances(x, self.there)
        nearest = min(far)
        return [nearest, far.count(nearest)]

    def least(self):
        if len(self.there) < 2:
            return [NOT_TWO_WORDS]
        return [least_distance(self.there)]

    def farthest(self):
        if len(self.there) == 0:
            return [NO_WORDS]
        offs = [min(distances(x, self.there)) for x in range(1 << self.bits)]
        most = max(offs)
        # The words at all are 0, 1 and so on, so where the most first stands is the first such word.
        return [most, offs.index(most), offs.count(most)]

    def alike(self, x):
        if not self.fits(x):
            return [DOES_NOT_FIT]
        if x not in self.there:
            return [NOT_THERE]
        counts = counts_from(self.bits, x, self.there)
        same = [word for word in self.there if counts_from(self.bits, word, self.there) == counts]
        return [len(same)] + counts

    def closed(self):
        # Closing puts in just what is missing, so what is closed already stays as it is.
        return [1 if closed_up(self.there) == self.there else 0]

    def twos(self):
        return [self.bits + 1] + counts_of_twos(self.bits, self.there)

    def sums(self):
        counts = counts_of_twos(self.bits, self.there)
        return [self.bits + 1] + [kth_sum(self.bits, counts, k) for k in range(self.bits + 1)]

    def sign(self, k, i):
        if k > self.bits or i > self.bits:
            return [DOES_NOT_FIT]
        return [0, sign_sum(self.bits, k, i)]

    def tilt(self, u):
        if not self.fits(u):
            return [DOES_NOT_FIT]
        return [0, tilt_of(u, self.there)]

    def patterns(self, u):
        if not self.fits(u):
            return [DOES_NOT_FIT]
        counts = pattern_counts(u, self.there)
        return [len(counts)] + counts

    def even(self, u):
        if not self.fits(u):
            return [DOES_NOT_FIT]
        return [1 if is_even(u, self.there) else 0]

    def strength(self):
        u = first_uneven(self.bits, self.there)
        if u is None:
            return [self.bits]
        # Even on some places it is even on fewer, so it isn't even on all sets of any more places either.
        return [weight(u) - 1]

    def uneven(self):
        u = first_uneven(self.bits, self.there)
        if u is None:
            return [EVEN_EVERYWHERE]
        return [weight(u), u]
