"""Writes lists of calls, reads what is answered, and follows texts in a second way, to compare with."""

from fractions import Fraction
from math import lcm

from goneoak.pegs import answers


def call(number, numbers=(), lists=()):
    written = [number, len(numbers), *numbers, len(lists)]
    for one in lists:
        written += [len(one), *one]
    return written


def begin(*landmarks):
    return call(0, (), landmarks)


def text(*sayings):
    return call(1, (), sayings)


def treasure(number):
    return call(2, (number,))


def needs(number):
    return call(3, (number,))


def tells(number, landmark):
    return call(4, (number, landmark))


def same(number, other):
    return call(5, (number, other))


def lost(number, landmark, place):
    return call(6, (number, landmark, *place))


def line(number, landmark, place, that_place):
    return call(7, (number, landmark, *place, *that_place))


def apart(number, other):
    return call(8, (number, other))


def move(landmark, place):
    return call(9, (landmark, *place))


def gone(landmark):
    return call(10, (landmark,))


def look():
    return call(11)


# One of each call but begin, so as the interface writes them.
ALL_BUT_BEGIN = (
    text([0, 0]),
    treasure(0),
    needs(0),
    tells(0, 0),
    same(0, 0),
    lost(0, 0, [1, 1]),
    line(0, 0, [1, 1], [2, 2]),
    apart(0, 0),
    move(0, [1, 1]),
    gone(0),
    look(),
)


def ask(*calls):
    """The answer to each call of one list of calls, as a list of lists."""
    told = answers([number for one in calls for number in one])
    split = []
    at = 0
    while at < len(told):
        split.append(told[at + 1:at + 1 + told[at]])
        at += 1 + told[at]
    assert at == len(told) and len(split) == len(calls), told
    return split


def last(*calls):
    return ask(*calls)[-1]


# The text that the document begins with: landmark 0 is the gallows, 1 the oak, 2 the rock.
GALLOWS = (
    [0, 0], [1, 1], [3, 3], [4, 1], [6],
    [1, 0], [1, 2], [3, 1], [4, 1], [6],
    [7, 0, 1],
)


# Each number with whether a place may have it.
BOUNDS = ((-2000, False), (-1001, False), (-1000, True), (1000, True), (1001, False), (2000, False))


def followed(sayings, places):
    """Where the treasure lies, by walking with fractions among landmarks that all stand: (east, north)."""
    pegs = []
    here = way = (Fraction(0), Fraction(0))

    def between(start, there):
        return (there[0] - start[0], there[1] - start[1])

    for sort, *numbers in sayings:
        before = here
        if sort in (0, 1):
            here = tuple(Fraction(number) for number in places[numbers[0]])
        elif sort == 2:
            here = pegs[numbers[0]]
        elif sort == 3:
            east, north = way
            way = {1: (-north, east), 2: (-east, -north), 3: (north, -east)}[numbers[0]]
        elif sort in (4, 5):
            far = Fraction(1, 2) if sort == 5 else numbers[0]
            here = (here[0] + far * way[0], here[1] + far * way[1])
        elif sort == 6:
            pegs.append(here)
        else:
            one, other = pegs[numbers[0]], pegs[numbers[1]]
            here = ((one[0] + other[0]) / 2, (one[1] + other[1]) / 2)
        if sort in (1, 2, 7):
            way = between(before, here)
    return here


def as_told(pair):
    """A pair of fractions as the three numbers in lowest terms."""
    under = lcm(pair[0].denominator, pair[1].denominator)
    return [int(pair[0] * under), int(pair[1] * under), under]


def chance_place(chance, far=1000):
    return [chance.randint(-far, far), chance.randint(-far, far)]


def needed_by(sayings, count):
    """The landmarks that move the treasure when they are moved, among so many."""
    middle = [[0, 0]] * count
    return [
        k for k in range(count)
        if followed(sayings, [[1, 0] if other == k else [0, 0] for other in range(count)]) != followed(sayings, middle)
    ]


def chance_text(chance, landmarks):
    """A text that isn't refused, of 1 to 14 sayings, by the chance source handed in."""
    sayings = [[0, chance.randrange(landmarks)]]
    pegs = halvings = 0
    for more in range(chance.randrange(14)):
        sort = chance.choice([1, 1, 2, 3, 4, 5, 6, 6, 7, 7])
        if sort in (2, 7) and pegs == 0 or sort in (5, 7) and halvings == 8:
            sort = 6
        pegs += sort == 6
        halvings += sort in (5, 7)
        reach = {1: landmarks, 2: pegs, 7: pegs}
        if sort in reach:
            sayings.append([sort] + [chance.randrange(reach[sort]) for peg in range(2 if sort == 7 else 1)])
        else:
            sayings.append([sort] + ([chance.randint(1, 3)] if sort in (3, 4) else []))
    return sayings
