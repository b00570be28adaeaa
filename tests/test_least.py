"""Points 19 and 20: the least worst of small lists."""

import random
import unittest

from samples import (
    BIG, BOXES, MOST_THINGS, PRIME, SQUARE, VAST, WIDE, check_kind_refusals, moved_and_grown, number, pair,
    plain_worst, small_lists, standing_in,
)
from weightrooms.errors import NoKind
from weightrooms.least import least_worst
from weightrooms.rooms import box_of, turned
from weightrooms.rules import RULES, by_rule
from weightrooms.shapes import floor_of, worst
from weightrooms.trees import boxes_by, is_tree

ROOMS = [SQUARE, WIDE, box_of(0, 0, 1, 3), box_of(-1, 4, 5, 4)]


def trees_in_order(numbers):
    """All trees of two trees at each place in which the numbers stand in this order."""
    if len(numbers) == 1:
        return [numbers[0]]
    found = []
    for cut in range(1, len(numbers)):
        for first in trees_in_order(numbers[:cut]):
            for second in trees_in_order(numbers[cut:]):
                found += [("across", (first, second)), ("down", (first, second))]
    return found


def trees_at_all(numbers, both_orders=True):
    """All trees of two trees at each place; without both orders of the two trees one of them alone."""
    if len(numbers) == 1:
        return [numbers[0]]
    found = []
    for mask in range(1, 2 ** len(numbers) - 1):
        if not both_orders and mask % 2 == 0:
            continue
        first = [thing for at, thing in enumerate(numbers) if mask >> at & 1]
        second = [thing for at, thing in enumerate(numbers) if not mask >> at & 1]
        for one in trees_at_all(first, both_orders):
            for other in trees_at_all(second, both_orders):
                found += [("across", (one, other)), ("down", (one, other))]
    return found


def all_trees(many, kind):
    """All trees of a kind, but of five things at all each with one order of the two trees at a place alone."""
    numbers = list(range(many))
    return trees_in_order(numbers) if kind == "order" else trees_at_all(numbers, many < 5)


TREES = {(kind, many): all_trees(many, kind) for kind in MOST_THINGS for many in range(1, MOST_THINGS[kind] + 1)}


def two_at_each_place(tree):
    """Whether a tree has two trees at each place."""
    return not isinstance(tree, tuple) or len(tree[1]) == 2 and all(two_at_each_place(part) for part in tree[1])


class AllTrees(unittest.TestCase):
    def test_as_many_as_there_are(self):
        self.assertEqual([len(TREES["order", many]) for many in range(1, 7)], [1, 2, 8, 40, 224, 1344])
        self.assertEqual([len(TREES["any", many]) for many in range(1, 5)], [1, 4, 48, 960])
        self.assertEqual(len(TREES["any", 5]), 105 * 16)


class LeastWorst(unittest.TestCase):
    def check(self, room, weights, kind, expected=None):
        """Hold what is told against the least of all trees; and its tree against the shape."""
        told = least_worst(room, weights, kind)
        self.assertIs(type(told), tuple)
        self.assertEqual(len(told), 2)
        if expected is None:
            shapes = [plain_worst(number(room[2]), number(room[3]), weights, tree)
                      for tree in TREES[kind, len(weights)]]
            expected = pair(min(shapes))
        self.assertEqual(told[0], expected, (room, weights, kind))
        self.assertIs(is_tree(told[1], len(weights)), True)
        self.assertTrue(two_at_each_place(told[1]))
        if kind == "order":
            self.assertEqual(standing_in(told[1]), list(range(len(weights))))
        self.assertEqual(worst(boxes_by(room, weights, told[1]))[0], expected)

    def test_written_out(self):
        for kind in MOST_THINGS:
            self.check(SQUARE, [7], kind, (1, 1))
            self.check(box_of(0, 0, 2, 7), [7], kind, (7, 2))
            self.check(SQUARE, [1, 1], kind, (2, 1))
            self.check(SQUARE, [1, 1, 1, 1], kind, (1, 1))
            self.check(box_of(0, 0, 3, 1), [5, 5, 5], kind, (1, 1))
            self.check(box_of(0, 0, 1, 5), [1] * 5, kind, (1, 1))
        # The two small ones stand beside one another at all, not in order.
        self.check(box_of(0, 0, 3, 2), [1, 4, 1], "any", (1, 1))
        self.assertGreater(number(least_worst(box_of(0, 0, 3, 2), [1, 4, 1], "order")[0]), 1)
        self.check(box_of(0, 0, 3, 2), [1, 1, 4], "order", (1, 1))
        self.check(box_of(0, 0, 2, 3), [4, 1, 1], "order", (1, 1))

    def test_held_against_all_trees(self):
        for (kind, many) in TREES:
            for room in ROOMS if many < 5 else ROOMS[:2]:
                for weights in small_lists(many):
                    self.check(room, weights, kind)

    def test_some_as_the_die_falls(self):
        dice = random.Random(19)
        for (kind, many) in TREES:
            for _ in range(6):
                room = box_of(0, 0, dice.randint(1, 9), dice.randint(1, 9))
                self.check(room, [dice.randint(1, dice.choice((3, 20))) for _ in range(many)], kind)

    def test_of_vast_rooms_and_weights(self):
        for kind in MOST_THINGS:
            for room in (VAST, box_of(0, 0, BIG, PRIME)):
                self.check(room, [BIG, PRIME, BIG - 1], kind)
        room = boxes_by(WIDE, [BIG, PRIME, 3], ("across", (0, ("down", (1, 2)))))[1]
        self.check(room, [BIG ** 3, PRIME ** 3, 2 * BIG ** 3], "any")


class TheLeastOfAll(unittest.TestCase):
    def asked(self):
        for room in BOXES[:3] + [box_of(0, 0, 4, 3)]:
            for many in range(1, 7):
                for weights in small_lists(many):
                    yield room, weights

    def test_no_rule_is_better(self):
        for room, weights in self.asked():
            shapes = {rule: number(worst(by_rule(rule, room, weights))[0]) for rule in RULES}
            in_order = number(least_worst(room, weights, "order")[0])
            for rule in ("across", "down", "halves", "rows"):
                self.assertLessEqual(in_order, shapes[rule])
            if len(weights) <= 5:
                at_all = number(least_worst(room, weights, "any")[0])
                self.assertLessEqual(at_all, min(shapes.values()))
                self.assertLessEqual(at_all, in_order)
                self.assertLessEqual(number(floor_of(room, weights)), at_all)

    def test_turned_over_and_moved_and_grown_it_is_the_same(self):
        for room, weights in self.asked():
            for kind, most in MOST_THINGS.items():
                if len(weights) <= most:
                    told = least_worst(room, weights, kind)[0]
                    self.assertEqual(least_worst(turned(room), weights, kind)[0], told)
                    other = least_worst(moved_and_grown(room), [weight * 3 for weight in weights], kind)
                    self.assertEqual(other[0], told)

    def test_at_all_the_order_of_the_weights_is_nothing(self):
        for room, weights in self.asked():
            if len(weights) <= 5:
                told = least_worst(room, weights, "any")[0]
                self.assertEqual(least_worst(room, weights[::-1], "any")[0], told)
                self.assertEqual(least_worst(room, sorted(weights), "any")[0], told)

    def test_in_order_it_is_the_same_from_the_other_end(self):
        for room, weights in self.asked():
            told = least_worst(room, weights, "order")[0]
            self.assertEqual(least_worst(room, weights[::-1], "order")[0], told)


class Handed(unittest.TestCase):
    def test_the_weights_stay(self):
        for kind in MOST_THINGS:
            weights = [3, 1, 2, 5]
            told = least_worst(WIDE, weights, kind)
            self.assertEqual(weights, [3, 1, 2, 5])
            self.assertEqual(least_worst(WIDE, weights, kind)[0], told[0])

    def test_refusals_in_their_order(self):
        check_kind_refusals(self, least_worst)

    def test_what_is_no_text_is_no_kind(self):
        for kind in (None, 0, True, [], ["any"], ("order",), {}, b"any"):
            with self.assertRaises(NoKind):
                least_worst(WIDE, [1, 2], kind)


if __name__ == "__main__":
    unittest.main()
