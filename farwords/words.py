"""What can be told of words by themselves. A word is a whole number; several words are a rising list."""


def weight(word):
    """How many 1 the word has."""
    ones = 0
    left = word
    while left > 0:
        ones = ones + (left & 1)
        left = left >> 1
    return ones


def distance(x, y):
    """How many bits just one of both words has."""
    return weight(x ^ y)


def missing(bits, there):
    """The words of so many bits that are not there."""
    return [word for word in range(1 << bits) if word not in there]


def exchanged(word, i, j):
    """The word with its bits i and j exchanged."""
    if (word >> i) & 1 == (word >> j) & 1:
        return word
    # Both bits differ, so to exchange them is to turn each over.
    return word ^ ((1 << i) | (1 << j))


def closed_up(there):
    """The words, and all that come of them by taking two together, again and again."""
    if len(there) == 0:
        return []
    # A word with itself is 0, so 0 is among them as soon as there is any word.
    span = [0]
    for word in there:
        # A word that is in the span already brings nothing new; any other brings each one together with it.
        if word not in span:
            span = span + [word ^ other for other in span]
    return sorted(span)


def distances(x, there):
    """How far x is from each of the words."""
    return [distance(x, word) for word in there]


def least_distance(there):
    """The least distance of two different words; there must be two."""
    nearest = []
    for place in range(1, len(there)):
        nearest.append(min(distances(there[place], there[:place])))
    return min(nearest)


def counts_from(bits, x, there):
    """How many of the words are at distance 0, 1 and so on from x."""
    far = distances(x, there)
    return [far.count(i) for i in range(bits + 1)]


def counts_of_twos(bits, there):
    """How many twos of the words are at distance 0, 1 and so on."""
    far = []
    for x in there:
        far.extend(distances(x, there))
    return [far.count(i) for i in range(bits + 1)]
