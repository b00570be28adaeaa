"""The looker: whether boxes, whoever drew them, part a room by weights."""

from weightrooms.fracs import added, fraction, is_less, times
from weightrooms.rooms import area, check_box, check_weights, is_box


def fault(room, weights, boxes):
    """None where the boxes part the room by the weights, else the first fault that they have."""
    check_box(room)
    check_weights(weights)
    if len(boxes) != len(weights):
        return ("count",)
    # One look through all boxes for each fault: an earlier kind goes first, wherever in the list it is.
    for at, box in enumerate(boxes):
        if not is_box(box):
            return ("box", at)
    for at, box in enumerate(boxes):
        if area(box) != times(area(room), fraction(weights[at], sum(weights))):
            return ("area", at)
    for at, box in enumerate(boxes):
        if not lies_within(room, box):
            return ("out", at)
    return first_over(boxes)


def walls(box):
    """Where a box begins and ends: left, right, top, bottom."""
    left, top, wide, high = box
    return (left, added(left, wide), top, added(top, high))


def lies_within(room, box):
    """Whether all points of a box are points of a room."""
    left, right, top, bottom = walls(box)
    begin, end, upper, lower = walls(room)
    if is_less(left, begin) or is_less(end, right):
        return False
    return not is_less(top, upper) and not is_less(lower, bottom)


def share_more_than_walls(one, other):
    """Whether two boxes, told by their walls, have points in common that lie inside both."""
    left, right, top, bottom = one
    begin, end, upper, lower = other
    if not is_less(left, end) or not is_less(begin, right):
        return False
    return is_less(top, lower) and is_less(upper, bottom)


def first_over(boxes):
    """The first box that lies over one ahead of it, with the first such one, or None."""
    drawn = [walls(box) for box in boxes]
    for at, later in enumerate(drawn):
        for ahead in range(at):
            if share_more_than_walls(drawn[ahead], later):
                return ("over", ahead, at)
    return None
