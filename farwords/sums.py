"""The calls on one object, told in one list of whole numbers, and what is answered, in another."""

from farwords.wordset import WordSet

BEGIN = 0
PUT = 1
TAKE = 2
REST = 3
MOVE = 4
SWAP = 5
CLOSE = 6
MANY = 7
WORDS = 8
DIST = 9
OFF = 10
LEAST = 11
TWOS = 12
SUMS = 13
SIGN = 14
TILT = 15
PATTERNS = 16
EVEN = 17
STRENGTH = 18
UNEVEN = 19
CLOSED = 20
FARTHEST = 21
ALIKE = 22

# How many numbers each call is told, by the call's number, from begin (0) to alike (22).
TOLD = (1, 1, 1, 0, 1, 2, 0, 0, 0, 2, 1, 0, 0, 0, 2, 1, 1, 1, 0, 0, 0, 0, 1)

NOT_BEGUN = -61


def answers(calls):
    """For each call, in order: how many numbers are answered, then these."""
    held = WordSet()
    given = []
    at = 0
    while at < len(calls):
        number = calls[at]
        end = at + 1 + TOLD[number]
        answered = answer(held, number, calls[at + 1:end])
        given.append(len(answered))
        given.extend(answered)
        at = end
    return given


def answer(held, number, told):
    """What one call is answered."""
    if number == BEGIN:
        return held.begin(told[0])
    if not held.is_begun():
        return [NOT_BEGUN]
    if number <= CLOSE:
        return change(held, number, told)
    if number >= TWOS and number <= UNEVEN:
        return reckon(held, number, told)
    return look(held, number, told)


def change(held, number, told):
    """The calls put to close, which may change what words there are."""
    if number == PUT:
        return held.put(told[0])
    if number == TAKE:
        return held.take(told[0])
    if number == REST:
        return held.rest()
    if number == MOVE:
        return held.move(told[0])
    if number == SWAP:
        return held.swap(told[0], told[1])
    return held.close()


def look(held, number, told):
    """The calls many to least and closed to alike, which tell of the words and how far apart they are."""
    if number == MANY:
        return held.many()
    if number == WORDS:
        return held.words()
    if number == DIST:
        return held.dist(told[0], told[1])
    if number == OFF:
        return held.off(told[0])
    if number == LEAST:
        return held.least()
    if number == CLOSED:
        return held.closed()
    if number == FARTHEST:
        return held.farthest()
    return held.alike(told[0])


def reckon(held, number, told):
    """The calls twos to uneven, which tell of sums and of sets of places."""
    if number == TWOS:
        return held.twos()
    if number == SUMS:
        return held.sums()
    if number == SIGN:
        return held.sign(told[0], told[1])
    if number == TILT:
        return held.tilt(told[0])
    if number == PATTERNS:
        return held.patterns(told[0])
    if number == EVEN:
        return held.even(told[0])
    if number == STRENGTH:
        return held.strength()
    return held.uneven()
