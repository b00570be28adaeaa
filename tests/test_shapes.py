"""Points 16, 17 and 18: the worst of boxes, floors, bounds; and point 4 as far as it speaks of them."""

import random
import unittest
from fractions import Fraction

from samples import (
    BIG, BOXES, HIGH, NO_RULES, PRIME, SQUARE, WEIGHTS, WIDE, check_room_refusals, mixed, moved_and_grown, number,
    pair, plain_shape, plainly, rooms_and_weights, some_tree,
)
from weightrooms.errors import NoRule
from weightrooms.rooms import area, box_of, shape, turned
from weightrooms.rules import RULES, by_rule
from weightrooms.shapes import bound_of, floor_of, worst
from weightrooms.trees import boxes_by

ROOMS = BOXES + [box_of(0, 0, 1, 50), box_of(3, -2, 6, 4), box_of(0, 0, BIG, BIG), box_of(0, 0, 1000, 1)]


def some_asked():
    """Rooms and lists of weights, of all sorts."""
    return rooms_and_weights(ROOMS, 18, 200)


def expected_floor(room, weights):
    """The floor, reckoned plainly by each thing's area."""
    _, _, wide, high = plainly(room)
    areas = [wide * high * weight / sum(weights) for weight in weights]
    return pair(max([Fraction(1)] + [part / min(wide, high) ** 2 for part in areas]))


def expected_thirds(room, weights):
    """The bound of thirds, reckoned plainly."""
    falling = sorted(weights)[::-1]
    steps = [1 + Fraction(falling[at], falling[at + 1]) for at in range(len(falling) - 1)]
    return pair(max([number(shape(room)), Fraction(3)] + steps))


class Worst(unittest.TestCase):
    def test_of_one_box(self):
        self.assertEqual(worst([SQUARE]), ((1, 1), 0))
        self.assertEqual(worst([HIGH]), ((27, 1), 0))
        self.assertEqual(worst([WIDE]), ((21, 10), 0))

    def test_of_several(self):
        self.assertEqual(worst([SQUARE, WIDE, HIGH]), ((27, 1), 2))
        self.assertEqual(worst([HIGH, WIDE, SQUARE]), ((27, 1), 0))
        self.assertEqual(worst([SQUARE, box_of(0, 0, 3, 4), WIDE, SQUARE]), ((21, 10), 2))
        self.assertEqual(worst([box_of(0, 0, BIG, BIG - 1), box_of(0, 0, BIG - 1, BIG - 2)]), (
            (BIG - 1, BIG - 2), 1))

    def test_the_first_of_several_alike(self):
        self.assertEqual(worst([SQUARE, SQUARE, SQUARE]), ((1, 1), 0))
        self.assertEqual(worst([SQUARE, box_of(0, 0, 1, 5), box_of(7, 7, 5, 1), SQUARE]), ((5, 1), 1))
        self.assertEqual(worst([box_of(0, 0, 2, 4), HIGH, turned(HIGH), moved_and_grown(HIGH)]), ((27, 1), 1))

    def test_it_is_a_tuple_and_the_list_stays(self):
        boxes = [SQUARE, HIGH, WIDE]
        told = worst(boxes)
        self.assertIs(type(told), tuple)
        self.assertEqual(boxes, [SQUARE, HIGH, WIDE])

    def test_held_against_a_plain_reckoning(self):
        for room, weights in some_asked():
            boxes = by_rule("rows", room, weights)
            shapes = [plain_shape(*plainly(box)[2:]) for box in boxes]
            self.assertEqual(worst(boxes), (pair(max(shapes)), shapes.index(max(shapes))))


class Floor(unittest.TestCase):
    def test_one_where_it_is_greatest(self):
        self.assertEqual(floor_of(SQUARE, [1]), (1, 1))
        self.assertEqual(floor_of(SQUARE, [1, 1]), (1, 1))
        self.assertEqual(floor_of(box_of(0, 0, 4, 1), [1] * 4), (1, 1))
        self.assertEqual(floor_of(box_of(0, 0, 1, 4), [1] * 40), (1, 1))

    def test_a_great_thing_makes_it_greater(self):
        self.assertEqual(floor_of(box_of(0, 0, 4, 1), [7, 1]), (7, 2))
        self.assertEqual(floor_of(box_of(0, 0, 1, 4), [1, 7]), (7, 2))
        self.assertEqual(floor_of(box_of(0, 0, 9, 3), [1, 1, 2]), (3, 2))
        self.assertEqual(floor_of(WIDE, [5]), (21, 10))
        self.assertEqual(floor_of(box_of(0, 0, BIG, 1), [1, 1]), (BIG, 2))
        self.assertEqual(floor_of(box_of(0, 0, (1, 3), (1, 2)), [9, 1]), (27, 20))

    def test_held_against_a_plain_reckoning(self):
        for room, weights in some_asked():
            told = floor_of(room, weights)
            self.assertEqual(told, expected_floor(room, weights))
            self.assertEqual(floor_of(turned(room), weights), told)
            self.assertEqual(floor_of(moved_and_grown(room), [weight * 6 for weight in weights]), told)

    def test_no_rule_is_below_it(self):
        for room, weights in some_asked():
            floor = number(floor_of(room, weights))
            for rule in RULES:
                self.assertGreaterEqual(number(worst(by_rule(rule, room, weights))[0]), floor)

    def test_no_tree_is_below_it(self):
        dice = random.Random(17)
        for room, weights in some_asked():
            tree = some_tree(dice, mixed(dice, range(len(weights))))
            told = worst(boxes_by(room, weights, tree))[0]
            self.assertGreaterEqual(number(told), number(floor_of(room, weights)))


class Bound(unittest.TestCase):
    def test_of_thirds_each_of_the_three(self):
        self.assertEqual(bound_of("thirds", box_of(0, 0, 100, 1), [1, 1]), (100, 1))
        self.assertEqual(bound_of("thirds", box_of(0, 0, 2, 7), [1]), (7, 2))
        self.assertEqual(bound_of("thirds", SQUARE, [1]), (3, 1))
        self.assertEqual(bound_of("thirds", SQUARE, [1, 1]), (3, 1))
        self.assertEqual(bound_of("thirds", SQUARE, [1, 2]), (3, 1))
        self.assertEqual(bound_of("thirds", SQUARE, [5, 1]), (6, 1))
        self.assertEqual(bound_of("thirds", SQUARE, [2, 5]), (7, 2))
        self.assertEqual(bound_of("thirds", box_of(0, 0, 1, 5), [1, 3]), (5, 1))
        self.assertEqual(bound_of("thirds", box_of(0, 0, 1, 5), [1, 5]), (6, 1))

    def test_of_thirds_by_falling_order(self):
        self.assertEqual(bound_of("thirds", SQUARE, [1, 9, 3]), (4, 1))
        self.assertEqual(bound_of("thirds", SQUARE, [1, 100, 10, 1000]), (11, 1))
        self.assertEqual(bound_of("thirds", SQUARE, [BIG, 1, BIG]), (BIG + 1, 1))

    def test_of_halves_both(self):
        self.assertEqual(bound_of("halves", SQUARE, [4]), (1, 1))
        self.assertEqual(bound_of("halves", SQUARE, [1, 1]), (2, 1))
        self.assertEqual(bound_of("halves", SQUARE, [3, 2, 4]), (9, 2))
        self.assertEqual(bound_of("halves", box_of(0, 0, 1, 9), [3, 2, 4]), (9, 1))
        self.assertEqual(bound_of("halves", box_of(0, 0, 9, 2), [3, 2, 4]), (9, 2))
        self.assertEqual(bound_of("halves", WIDE, [BIG, 1]), (BIG + 1, 1))

    def test_of_across_and_down_the_worst_shape_itself(self):
        self.assertEqual(bound_of("across", box_of(0, 0, 4, 1), [1, 3]), (3, 1))
        self.assertEqual(bound_of("down", box_of(0, 0, 4, 1), [1, 3]), (16, 1))
        for room, weights in some_asked():
            for rule in ("across", "down"):
                self.assertEqual(bound_of(rule, room, weights), worst(by_rule(rule, room, weights))[0])

    def test_of_rows_and_greatest_none(self):
        for room, weights in some_asked():
            for rule in ("rows", "greatest"):
                self.assertIsNone(bound_of(rule, room, weights))

    def test_held_against_a_plain_reckoning(self):
        for room, weights in some_asked():
            self.assertEqual(bound_of("thirds", room, weights), expected_thirds(room, weights))
            expected = max(number(shape(room)), Fraction(sum(weights), min(weights)))
            self.assertEqual(bound_of("halves", room, weights), pair(expected))

    def test_no_box_is_beyond_it(self):
        for room, weights in some_asked():
            for rule in ("across", "down", "halves", "thirds"):
                bound = number(bound_of(rule, room, weights))
                for box in by_rule(rule, room, weights):
                    self.assertLessEqual(number(shape(box)), bound)

    def test_turned_over_and_moved_and_grown(self):
        for room, weights in some_asked():
            for rule, other in (("thirds", "thirds"), ("halves", "halves"), ("across", "down")):
                told = bound_of(rule, room, weights)
                self.assertEqual(bound_of(other, turned(room), weights), told)
                self.assertEqual(bound_of(rule, moved_and_grown(room), [weight * PRIME for weight in weights]), told)


class All(unittest.TestCase):
    def test_the_weights_stay(self):
        for weights in WEIGHTS:
            kept = list(weights)
            floor_of(WIDE, weights)
            for rule in RULES:
                bound_of(rule, WIDE, weights)
            self.assertEqual(weights, kept)

    def test_great_numbers_told_are_handed_in_again(self):
        room = WIDE
        weights = [BIG ** 20, PRIME ** 20, 1]
        for rule in ("thirds", "halves", "across"):
            boxes = by_rule(rule, room, weights)
            self.assertEqual(worst(boxes), (shape(boxes[2]), 2))
            self.assertEqual(floor_of(room, weights), expected_floor(room, weights))
            self.assertGreaterEqual(number(bound_of(rule, room, weights)), number(worst(boxes)[0]))
            self.assertEqual(number(area(boxes[2])) * sum(weights), number(area(room)))
            room = boxes[1]


class Refused(unittest.TestCase):
    def test_no_rule_ahead_of_all_else(self):
        for rule in NO_RULES:
            for room in (SQUARE, None, (), list(WIDE)):
                for weights in ([1, 2], [], None, [0], [True], [1] * 41):
                    with self.subTest(rule=rule), self.assertRaises(NoRule):
                        bound_of(rule, room, weights)

    def test_rooms_and_weights_in_their_order(self):
        check_room_refusals(self, floor_of)
        for rule in RULES:
            check_room_refusals(self, lambda room, weights: bound_of(rule, room, weights))


if __name__ == "__main__":
    unittest.main()
