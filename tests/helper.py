"""Lines are written here as tuples, one a call, and answers read as lists, one a call."""

from farwords.sums import answers

(BEGIN, PUT, TAKE, REST, MOVE, SWAP, CLOSE, MANY, WORDS, DIST, OFF, LEAST,
 TWOS, SUMS, SIGN, TILT, PATTERNS, EVEN, STRENGTH, UNEVEN, CLOSED, FARTHEST, ALIKE) = range(23)

BIGGEST = 2147483647


def flat(calls):
    return [number for call in calls for number in call]


def parted(given):
    """The answers apart, by the count that stands ahead of each."""
    out = []
    at = 0
    while at < len(given):
        out.append(given[at + 1:at + 1 + given[at]])
        assert given[at] >= 1 and len(out[-1]) == given[at]
        at += 1 + given[at]
    return out


def ask(*calls):
    assert 1 <= len(calls) <= 60, "no such line is handed in"
    out = parted(answers(flat(calls)))
    assert len(out) == len(calls), (calls, out)
    return out


def made(bits, words):
    """Calls that bring just these words about."""
    return [(BEGIN, bits)] + [(PUT, word) for word in words]


def after(bits, words, *calls):
    """What these calls are answered, on these words."""
    start = made(bits, words)
    # A line holds 60 calls: many words are brought about from the other side.
    if len(words) > 32:
        start = made(bits, [word for word in range(1 << bits) if word not in words]) + [(REST,)]
    return ask(*start, *calls)[len(start):]


def each(bits, words, calls):
    """What many calls, which only look, are answered on these words: as many lines as they need."""
    out = []
    for at in range(0, len(calls), 20):
        out += after(bits, words, *calls[at:at + 20])
    return out


def even_weights(bits):
    return [word for word in range(1 << bits) if bin(word).count("1") % 2 == 0]


# What all there is to an object shows in: how many words, which, and which bits there are.
SHOW = [(MANY,), (WORDS,)] + [(DIST, 0, 1 << bit) for bit in range(7)]


def shown(bits, words):
    """What SHOW is answered with so many bits and these words."""
    return [[len(words)], [len(words)] + sorted(words)] + [[1] if bit < bits else [-22] for bit in range(7)]
