"""How far from square: the worst of boxes, what no parting goes below, what a rule doesn't go beyond."""

from weightrooms.fracs import fraction, greatest_of, times
from weightrooms.rooms import WAYS, check_box, check_weights, shape
from weightrooms.rules import by_rule, check_rule


def worst(boxes):
    """The greatest shape of a list of boxes, and the number of the first box that has it."""
    shapes = [shape(box) for box in boxes]
    greatest = greatest_of(shapes)
    return (greatest, shapes.index(greatest))


def thinness(room, weight, whole):
    """The area of a weight's box, of a room parted by the whole, over the square of the room's shorter side."""
    # The area is the longer side times the shorter times the share: one shorter side goes out.
    return times(shape(room), fraction(weight, whole))


def floor_of(room, weights):
    """The shape below which no parting of a room by weights has its worst."""
    check_box(room)
    check_weights(weights)
    return greatest_of([(1, 1)] + [thinness(room, weight, sum(weights)) for weight in weights])


def bound_of(rule, room, weights):
    """The shape that no box of a rule's parting goes beyond; None where none is told."""
    check_rule(rule)
    check_box(room)
    check_weights(weights)
    if rule == "thirds":
        return bound_of_thirds(room, weights)
    if rule == "halves":
        return greatest_of([shape(room), fraction(sum(weights), min(weights))])
    if rule in WAYS:
        return worst(by_rule(rule, room, weights))[0]
    return None


def bound_of_thirds(room, weights):
    """The bound of thirds: by the room, by three, and by each two neighbours among the falling weights."""
    falling = sorted(weights, reverse=True)
    found = [shape(room), (3, 1)]
    for greater, lesser in zip(falling, falling[1:]):
        found.append(fraction(greater + lesser, lesser))
    return greatest_of(found)
