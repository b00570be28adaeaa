"""Points 13 and 14: the trees by rows, in order and by falling weights."""

import unittest
from fractions import Fraction

from samples import (
    BIG, BOXES, PRIME, SQUARE, WEIGHTS, WIDE, check_room_refusals, number, plain_shape, rooms_and_weights, standing_in,
)
from weightrooms.looker import fault
from weightrooms.rooms import box_of, turned
from weightrooms.rows import greatest_tree, rows_tree
from weightrooms.trees import boxes_by, is_tree

ROOMS = BOXES + [box_of(0, 0, 6, 4), box_of(-3, 7, 4, 6), box_of(0, 0, 1, 100), box_of(0, 0, BIG, BIG)]


def worst_in_row(long, short, row, whole):
    """The worst shape of a row of so many weights, across the short side of a room."""
    thick = long * sum(row) / whole
    return max(plain_shape(thick, short * weight / sum(row)) for weight in row)


def plain_rows(wide, high, things):
    """The tree by rows of things (number, weight) in a room so wide and high, reckoned plainly."""
    long, short = max(wide, high), min(wide, high)
    way, other = ("across", "down") if wide >= high else ("down", "across")
    whole = Fraction(sum(weight for _, weight in things))
    many = 1
    while many < len(things):
        shapes = [worst_in_row(long, short, [weight for _, weight in things[:k]], whole) for k in (many, many + 1)]
        if shapes[1] > shapes[0]:
            break
        many += 1
    row = tuple(figure for figure, _ in things[:many])
    tree = row[0] if many == 1 else (other, row)
    if many == len(things):
        return tree
    left = long - long * sum(weight for _, weight in things[:many]) / whole
    rest = plain_rows(*((left, high) if way == "across" else (wide, left)), things[many:])
    return (way, (tree, rest))


def expected_rows(room, weights):
    return plain_rows(number(room[2]), number(room[3]), list(enumerate(weights)))


def expected_greatest(room, weights):
    things = sorted(enumerate(weights), key=lambda thing: (-thing[1], thing[0]))
    return plain_rows(number(room[2]), number(room[3]), things)


def some_asked():
    """Rooms and lists of weights, of all sorts."""
    return rooms_and_weights(ROOMS, 13, 250)


class Rows(unittest.TestCase):
    def test_one_thing(self):
        for room in BOXES:
            for weight in (1, 9, BIG):
                self.assertEqual(rows_tree(room, [weight]), 0)

    def test_written_out(self):
        # Reckoned by hand: the rows 0 1, 2 3, 4, 5, 6.
        tree = ("across", (("down", (0, 1)), ("down", (("across", (2, 3)), ("across", (4, ("across", (5, 6))))))))
        self.assertEqual(rows_tree(box_of(0, 0, 6, 4), [6, 6, 4, 3, 2, 2, 1]), tree)

    def test_at_the_left_and_at_the_top(self):
        self.assertEqual(rows_tree(box_of(0, 0, 4, 1), [1, 1]), ("across", (0, 1)))
        self.assertEqual(rows_tree(box_of(0, 0, 1, 4), [1, 1]), ("down", (0, 1)))
        self.assertEqual(rows_tree(box_of(0, 0, 2, 3), [3, 3]), ("down", (0, 1)))
        self.assertEqual(rows_tree(box_of(0, 0, 3, 2), [1, 1, 4]), ("across", (("down", (0, 1)), 2)))
        self.assertEqual(rows_tree(box_of(0, 0, 2, 3), [1, 1, 4]), ("down", (("across", (0, 1)), 2)))

    def test_a_row_of_all(self):
        self.assertEqual(rows_tree(box_of(0, 0, 4, 4), [1, 1]), ("down", (0, 1)))

    def test_a_row_goes_on_where_its_worst_shape_stays_alike(self):
        # One beside the other or one beneath the other: both halves of a square have the shape 2.
        for side in (1, 3, BIG):
            self.assertEqual(rows_tree(box_of(0, 0, side, side), [5, 5]), ("down", (0, 1)))
        # Of three the first alone has the shape 2, as the first two have; the third makes the row worse.
        room = box_of(0, 0, 8, 4)
        tree = rows_tree(room, [8, 8, 16])
        self.assertEqual(tree, ("across", (("down", (0, 1)), 2)))

    def test_square_rooms_have_rows_at_the_left(self):
        self.assertEqual(rows_tree(SQUARE, [2, 1, 1]), ("across", (0, ("down", (1, 2)))))
        self.assertEqual(rows_tree(SQUARE, [1, 1, 1, 1]), ("across", (("down", (0, 1)), ("down", (2, 3)))))

    def test_the_rest_is_a_room_of_its_own(self):
        tree = rows_tree(box_of(0, 0, 2, 1), [1, 1, 1, 1, 4])
        self.assertEqual(tree, ("across", (("down", (0, 1)), ("across", (("down", (2, 3)), 4)))))
        tree = rows_tree(box_of(0, 0, 3, 4), [4, 3, 2, 2, 1])
        self.assertEqual(tree, ("down", (("across", (0, 1)), ("across", (2, ("across", (3, 4)))))))

    def test_weights_doubled_on_and_on(self):
        tree = rows_tree(SQUARE, [8, 4, 2, 1])
        self.assertEqual(tree, expected_rows(SQUARE, [8, 4, 2, 1]))
        self.assertEqual(tree[1][0], 0)

    def test_held_against_a_plain_reckoning(self):
        for room, weights in some_asked():
            self.assertEqual(rows_tree(room, weights), expected_rows(room, weights), (room, weights))

    def test_they_stand_in_order_and_part_the_room(self):
        for room, weights in some_asked():
            tree = rows_tree(room, weights)
            self.assertIs(is_tree(tree, len(weights)), True)
            self.assertEqual(standing_in(tree), list(range(len(weights))))
            self.assertIsNone(fault(room, weights, boxes_by(room, weights, tree)))


class Greatest(unittest.TestCase):
    def test_one_thing(self):
        for room in BOXES:
            for weight in (1, 9, BIG):
                self.assertEqual(greatest_tree(room, [weight]), 0)

    def test_written_out(self):
        # The things of the rows' own example, their weights in another order.
        tree = ("across", (("down", (4, 6)), ("down", (("across", (0, 5)), ("across", (1, ("across", (3, 2))))))))
        self.assertEqual(greatest_tree(box_of(0, 0, 6, 4), [4, 2, 1, 2, 6, 3, 6]), tree)

    def test_falling_weights_in_a_rows_tree_too(self):
        tree = ("down", (("across", (3, 1)), ("across", (2, ("across", (4, 0))))))
        self.assertEqual(greatest_tree(box_of(0, 0, 3, 4), [1, 3, 2, 4, 2]), tree)
        self.assertEqual(greatest_tree(box_of(0, 0, 4, 4), [1, 2]), ("across", (1, 0)))
        self.assertEqual(greatest_tree(box_of(0, 0, 9, 1), [1, 2, 3]), ("across", (2, ("across", (1, 0)))))

    def test_those_of_one_weight_by_rising_numbers(self):
        self.assertEqual(greatest_tree(SQUARE, [1, 1, 1, 1]), ("across", (("down", (0, 1)), ("down", (2, 3)))))
        self.assertEqual(greatest_tree(SQUARE, [1, 3, 1, 3]), expected_greatest(SQUARE, [1, 3, 1, 3]))
        for room, weights in some_asked():
            order = standing_in(greatest_tree(room, weights))
            self.assertEqual(order, sorted(range(len(weights)), key=lambda at: (-weights[at], at)))

    def test_of_falling_weights_it_is_that_of_rows(self):
        for room, weights in some_asked():
            falling = sorted(weights, reverse=True)
            self.assertEqual(greatest_tree(room, falling), rows_tree(room, falling))

    def test_held_against_a_plain_reckoning(self):
        for room, weights in some_asked():
            self.assertEqual(greatest_tree(room, weights), expected_greatest(room, weights), (room, weights))

    def test_they_part_the_room(self):
        for room, weights in some_asked():
            tree = greatest_tree(room, weights)
            self.assertIs(is_tree(tree, len(weights)), True)
            self.assertIsNone(fault(room, weights, boxes_by(room, weights, tree)))


class Both(unittest.TestCase):
    def test_great_numbers_told_are_handed_in_again(self):
        room = WIDE
        for step in range(4):
            weights = [BIG ** 12 + step, 1, PRIME ** 12, BIG]
            for make, expected in ((rows_tree, expected_rows), (greatest_tree, expected_greatest)):
                tree = make(room, weights)
                self.assertEqual(tree, expected(room, weights))
                told = boxes_by(room, weights, tree)
                self.assertIsNone(fault(room, weights, told))
            room = told[step % 4]

    def test_only_the_shape_of_the_room_counts(self):
        for make in (rows_tree, greatest_tree):
            for weights in WEIGHTS:
                tree = make(WIDE, weights)
                grown = ((9, 1), (-1, 7), (21, 2), (5, 1))
                self.assertEqual(make(grown, weights), tree)
                self.assertEqual(make(WIDE, [weight * 6 for weight in weights]), tree)

    def test_the_list_of_weights_stays(self):
        for make in (rows_tree, greatest_tree):
            for weights in WEIGHTS:
                kept = list(weights)
                first = make(WIDE, weights)
                self.assertEqual(weights, kept)
                self.assertEqual(make(WIDE, weights), first)
            with self.subTest(make.__name__):
                weights = [1, 5, 2]
                tree = make(turned(WIDE), weights)
                weights[0] = 100
                self.assertEqual(make(turned(WIDE), [1, 5, 2]), tree)

    def test_refusals_in_their_order(self):
        for make in (rows_tree, greatest_tree):
            check_room_refusals(self, make)


if __name__ == "__main__":
    unittest.main()
