"""Boxes: tuples (left, top, wide, high) of fractions, and lists of weights."""

from weightrooms.errors import NoBox, NoWay, NoWeights, TooMany
from weightrooms.fracs import added, fraction, is_fraction, is_less, is_whole, over, times

WAYS = ("across", "down")
MOST_WEIGHTS = 40


def is_box(thing):
    """Whether a thing, whatever it is, is a box."""
    if not isinstance(thing, tuple) or len(thing) != 4:
        return False
    if not all([is_fraction(part) for part in thing]):
        return False
    return thing[2][0] > 0 and thing[3][0] > 0


def check_box(thing):
    """Refuse what is no box."""
    if not is_box(thing):
        raise NoBox("this is no box")


def is_way(thing):
    """Whether a thing, whatever it is, is one of the two ways."""
    return isinstance(thing, str) and thing in WAYS


def check_way(way):
    """Refuse what is no way."""
    if not is_way(way):
        raise NoWay("this is no way")


def other_way(way):
    """The one of the two ways that a way is not."""
    if way == "across":
        return "down"
    return "across"


def is_weight(thing):
    """Whether a thing, whatever it is, is a weight."""
    return is_whole(thing) and thing >= 1


def check_weights(thing):
    """Refuse what is no list of weights, then one that is too long."""
    if not isinstance(thing, list) or len(thing) == 0:
        raise NoWeights("this is no list of weights")
    # All are looked at ahead of the count: NoWeights goes before TooMany.
    if not all([is_weight(weight) for weight in thing]):
        raise NoWeights("a weight is a whole number from 1 on")
    if len(thing) > MOST_WEIGHTS:
        raise TooMany("these are more weights than forty")


def as_fraction(thing):
    """A whole number as a fraction; anything else as it is."""
    if is_whole(thing):
        return (thing, 1)
    return thing


def box_of(left, top, wide, high):
    """The box that four fractions or whole numbers make."""
    box = (as_fraction(left), as_fraction(top), as_fraction(wide), as_fraction(high))
    check_box(box)
    return box


def area(box):
    """The area of a box."""
    check_box(box)
    return times(box[2], box[3])


def long_way(box):
    """The way along which a box is longer; across where it is square."""
    check_box(box)
    if is_less(box[2], box[3]):
        return "down"
    return "across"


def shape(box):
    """How far a box is from square: its greater side over its lesser."""
    if long_way(box) == "across":
        return over(box[2], box[3])
    return over(box[3], box[2])


def turned(box):
    """The box turned over: left with top, wide with high exchanged."""
    check_box(box)
    left, top, wide, high = box
    return (top, left, high, wide)


def shares(start, length, weights):
    """Where each weight's share of a length begins, and how long it is."""
    whole = sum(weights)
    ahead = 0
    found = []
    for weight in weights:
        begin = added(start, times(length, fraction(ahead, whole)))
        found.append((begin, times(length, fraction(weight, whole))))
        ahead += weight
    return found


def parted(box, way, weights):
    """The boxes to which a box is parted by a way and weights."""
    check_box(box)
    check_way(way)
    check_weights(weights)
    left, top, wide, high = box
    if way == "across":
        return [(begin, top, length, high) for begin, length in shares(left, wide, weights)]
    return [(left, begin, wide, length) for begin, length in shares(top, high, weights)]


def cut_in_two(room, weights, many):
    """The two parts of a room, cut by its long way: of the first so many weights, and of the others."""
    return parted(room, long_way(room), [sum(weights[:many]), sum(weights[many:])])
