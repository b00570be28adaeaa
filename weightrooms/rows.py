"""The rules of rows: the things row by row, each row as long as its worst shape doesn't grow."""

from weightrooms.fracs import greatest_of, is_less
from weightrooms.rooms import check_box, check_weights, cut_in_two, long_way, other_way, parted, shape


def rows_tree(room, weights):
    """The tree of a room and weights by rows, the things in their order."""
    check_box(room)
    check_weights(weights)
    return tree_of_rows(room, list(range(len(weights))), weights)


def greatest_tree(room, weights):
    """The tree of a room and weights by rows, the things by falling weights."""
    check_box(room)
    check_weights(weights)
    numbers = by_falling_weights(weights)
    return tree_of_rows(room, numbers, [weights[number] for number in numbers])


def by_falling_weights(weights):
    """The things' numbers by falling weights, those of one weight by rising numbers."""
    return sorted(range(len(weights)), key=lambda number: (-weights[number], number))


def tree_of_rows(room, numbers, weights):
    """The tree by rows of things that are told by their numbers and, in the same order, their weights."""
    many = row_length(room, weights)
    tree = tree_of_row(room, numbers[:many])
    if many == len(numbers):
        return tree
    rest = cut_in_two(room, weights, many)[1]
    return (long_way(room), (tree, tree_of_rows(rest, numbers[many:], weights[many:])))


def tree_of_row(room, numbers):
    """The tree of a row of a room."""
    if len(numbers) == 1:
        return numbers[0]
    return (other_way(long_way(room)), tuple(numbers))


def row_length(room, weights):
    """How many of the things the first row of a room takes in."""
    many = 1
    before = worst_of_row(room, weights, many)
    while many < len(weights):
        behind = worst_of_row(room, weights, many + 1)
        if is_less(before, behind):
            break
        before = behind
        many += 1
    return many


def worst_of_row(room, weights, many):
    """The greatest shape in the row that so many first things make."""
    part = room
    if many < len(weights):
        part = cut_in_two(room, weights, many)[0]
    boxes = parted(part, other_way(long_way(room)), weights[:many])
    return greatest_of([shape(box) for box in boxes])
