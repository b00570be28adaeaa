"""Things that several tests hand in, and a plain reckoning to hold answers against."""

from fractions import Fraction

BIG = 10 ** 30 - 1
PRIME = 10 ** 29 + 319

ONE = (1, 1)
SQUARE = ((0, 1), (0, 1), (1, 1), (1, 1))
WIDE = ((-1, 2), (3, 4), (7, 2), (5, 3))
HIGH = ((2, 1), (-5, 1), (1, 3), (9, 1))
VAST = ((-BIG, 8), (BIG, PRIME), (BIG, 2), (PRIME, BIG))
BOXES = [SQUARE, WIDE, HIGH, VAST]

# None of these is a fraction, nor a whole number that could be made one.
NO_PARTS = [
    True, False, None, "", "1", "1/2", b"1", [], [1, 2], [1, 1], {}, {1: 2}, set(), object(), int,
    (), (1,), (1, 2, 3), (1, 1, 1),
    (2, 4), (0, 2), (-3, 6), (BIG, BIG), (6, 2),
    (1, 0), (0, 0), (1, -1), (-1, -2), (0, -1),
    (True, 1), (1, True), (True, True), (False, 1), (1, False), (True, 2), (0, True),
    (None, 1), (1, None), ("1", 1), (1, "2"), ([1], 1), (1, [2]), ((1, 1), 1), (1, (1, 1)),
]

# None of these may be wide or high.
NO_SIDES = NO_PARTS + [0, -1, -BIG, (0, 1), (-1, 1), (-1, BIG)]


def with_part(parts, at, part):
    """The parts as a tuple, another one at the place."""
    changed = list(parts)
    changed[at] = part
    return tuple(changed)


def no_boxes():
    """Things of many kinds that are no boxes."""
    things = [True, False, None, 0, 1, -7, BIG, "", "box", "0 0 1 1", b"", [], {}, set(), object(), tuple]
    things += [(), (ONE,), SQUARE[:3], SQUARE + (ONE,), list(SQUARE), [SQUARE], (SQUARE,), dict(enumerate(SQUARE))]
    things += [[list(part) for part in SQUARE], tuple(list(part) for part in SQUARE)]
    things += [(0, 0, 1, 1), "abcd", ("a", "b", "c", "d"), (None,) * 4, (SQUARE,) * 4]
    for at in range(4):
        for part in NO_PARTS + [0, 1, -1]:
            things.append(with_part(WIDE, at, part))
    for at in (2, 3):
        for part in NO_SIDES:
            things.append(with_part(WIDE, at, part))
    return things


def pair(number):
    """A number of the plain reckoning as a fraction of the program."""
    return (number.numerator, number.denominator)


def number(one):
    """A fraction of the program as a number of the plain reckoning."""
    return Fraction(one[0], one[1])
