"""What can be told of words on sets of places, and the sums that tell it from the distances alone."""

from farwords.words import weight


def sets_of(bits, count):
    """The sets of so many places, rising."""
    return [places for places in range(1 << bits) if weight(places) == count]


def sign_of(places):
    """1 if the places are evenly many, else -1."""
    return 1 if weight(places) % 2 == 0 else -1


def sign_sum(bits, k, i):
    """The sign sum of k and i."""
    # Which i bits are told makes no difference to the sum, so the first i stand for any.
    told = (1 << i) - 1
    return sum([sign_of(places & told) for places in sets_of(bits, k)])


def kth_sum(bits, twos, k):
    """The k-th sum, of how many twos there are at distance 0, 1 and so on."""
    return sum([twos[i] * sign_sum(bits, k, i) for i in range(bits + 1)])


def tilt_of(u, there):
    """How many words have evenly many 1 on u, less how many have oddly many."""
    return sum([sign_of(word & u) for word in there])


def patterns_on(u):
    """The sets of some of the places of u, none and all of them too, rising."""
    return [places for places in range(u + 1) if places & u == places]


def pattern_counts(u, there):
    """How many words have each pattern on u, patterns rising."""
    had = [word & u for word in there]
    return [had.count(pattern) for pattern in patterns_on(u)]


def is_even(u, there):
    """Whether each pattern on u is had by just as many words."""
    counts = pattern_counts(u, there)
    return min(counts) == max(counts)


def first_uneven(bits, there):
    """Of the sets with the fewest places on which it isn't even the least; None if it's even everywhere."""
    for count in range(bits + 1):
        for u in sets_of(bits, count):
            if not is_even(u, there):
                return u
    return None
