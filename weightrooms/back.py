"""Read back: the weights, the tree and what lies in what, from drawn boxes alone."""

from weightrooms.errors import NoBox, NoCut, TooMany
from weightrooms.fracs import common_divisor, is_less
from weightrooms.looker import fault, lies_within, walls
from weightrooms.rooms import MOST_WEIGHTS, WAYS, area, check_box


def weights_back(boxes):
    """The least whole numbers that are to one another as the areas of boxes."""
    if len(boxes) == 0:
        raise NoBox("there are no boxes")
    areas = [area(box) for box in boxes]
    common = 1
    for top, bottom in areas:
        common = common * bottom // common_divisor(common, bottom)
    wholes = [top * (common // bottom) for top, bottom in areas]
    divisor = 0
    for whole in wholes:
        divisor = common_divisor(divisor, whole)
    return [whole // divisor for whole in wholes]


def tree_back(room, boxes):
    """The tree by which a room was cut to boxes; refused where no tree cuts it so."""
    check_box(room)
    for box in boxes:
        check_box(box)
    if len(boxes) > MOST_WEIGHTS:
        raise TooMany("these are more boxes than forty")
    if fault(room, weights_back(boxes), boxes) is not None:
        raise NoBox("these boxes do not part the room")
    return tree_of_lot([walls(box) for box in boxes], list(range(len(boxes))))


def tree_of_lot(drawn, numbers):
    """The tree of the boxes of a rising list of numbers, told by their walls, that fill a room of their own."""
    if len(numbers) == 1:
        return numbers[0]
    for way in WAYS:
        lots = lots_along(drawn, numbers, way)
        if len(lots) > 1:
            return (way, tuple([tree_of_lot(drawn, lot) for lot in lots]))
    raise NoCut(numbers)


def lots_along(drawn, numbers, way):
    """The lots, rising each, to which all lines that go through no box cut the numbers, from the left or the top."""
    at = 0 if way == "across" else 2
    spans = {number: (drawn[number][at], drawn[number][at + 1]) for number in numbers}
    lines = free_lines(list(spans.values()))
    lots = [[] for line in lines]
    for number in numbers:
        begin = spans[number][0]
        ahead = [line for line in lines if not is_less(begin, line)]
        lots[len(ahead) - 1].append(number)
    return lots


def free_lines(spans):
    """Where boxes that reach from begin to end begin, and none is gone through: the near side of them all too."""
    # Boxes that fill a room leave no gap, so each line that goes through none is where one of them begins.
    lines = []
    for begin, end in spans:
        if begin not in lines and not any([goes_through(begin, span) for span in spans]):
            lines.append(begin)
    return lines


def goes_through(line, span):
    """Whether a line lies inside what reaches from begin to end."""
    begin, end = span
    return is_less(begin, line) and is_less(line, end)


def lies_in(rooms):
    """For each tuple (name, box) its name, and the name of the least box that it lies in, or None."""
    for name, box in rooms:
        check_box(box)
    return [(name, least_around(box, rooms)) for name, box in rooms]


def least_around(box, rooms):
    """The name of the box of least area that has all points of a box and a greater area, or None."""
    found = None
    least = None
    # By names, so that of several of one area the first stays.
    for name, other in sorted(rooms, key=lambda row: row[0]):
        size = area(other)
        if is_less(area(box), size) and lies_within(other, box) and (least is None or is_less(size, least)):
            found, least = name, size
    return found
