"""Points 11, 12 and 15: the rules, by halves and by thirds among them; and point 4 of all six."""

import unittest

from samples import (
    BIG, BOXES, HIGH, NO_RULES, PRIME, SQUARE, WEIGHTS, WIDE, check_room_refusals, moved_and_grown, no_boxes, number,
    plain_boxes, plain_cuts, plain_thirds, plainly, rooms_and_weights, standing_in,
)
from weightrooms.errors import NoBox, NoRule, NoWeights, TooMany
from weightrooms.looker import fault
from weightrooms.rooms import box_of, shape, turned
from weightrooms.rows import greatest_tree, rows_tree
from weightrooms.rules import RULES, by_rule, halves_tree, rule_tree, thirds_tree
from weightrooms.trees import boxes_by, is_tree

SIX = ("across", "down", "halves", "rows", "greatest", "thirds")
KEEP_ORDER = ("across", "down", "halves", "rows")
ROOMS = BOXES + [box_of(0, 0, 1, 50), box_of(3, -2, 6, 4), box_of(0, 0, BIG, BIG)]


def some_asked():
    """Rooms and lists of weights, of all sorts."""
    return rooms_and_weights(ROOMS, 11, 150)


def first_half(weights):
    """The count of the first ones by halves: the least by how far from half, then by itself."""
    return min((abs(sum(weights[:k]) - sum(weights[k:])), k) for k in range(1, len(weights)))[1]


def expected_halves(room, weights):
    return plain_cuts(number(room[2]), number(room[3]), list(enumerate(weights)), first_half)


class Rules(unittest.TestCase):
    def test_the_six_texts(self):
        self.assertIs(type(RULES), tuple)
        self.assertEqual(RULES, SIX)

    def test_one_thing(self):
        for rule in RULES:
            for room in ROOMS:
                for weight in (1, 8, BIG):
                    self.assertEqual(rule_tree(rule, room, [weight]), 0)
                    self.assertEqual(by_rule(rule, room, [weight]), [room])

    def test_across_and_down(self):
        for way in ("across", "down"):
            for room, weights in some_asked():
                if len(weights) > 1:
                    self.assertEqual(rule_tree(way, room, weights), (way, tuple(range(len(weights)))))
        self.assertEqual(rule_tree("across", HIGH, [3, 1, 2]), ("across", (0, 1, 2)))
        self.assertEqual(by_rule("down", box_of(0, 0, 1, 4), [3, 1]), [box_of(0, 0, 1, 3), box_of(0, 3, 1, 1)])

    def test_each_rule_tells_its_own_tree(self):
        own = {"halves": halves_tree, "rows": rows_tree, "greatest": greatest_tree, "thirds": thirds_tree}
        for room, weights in some_asked():
            for rule, make in own.items():
                self.assertEqual(rule_tree(rule, room, weights), make(room, weights))

    def test_the_six_are_unlike(self):
        trees = [rule_tree(rule, WIDE, [1, 5, 2, 4, 3, 3, 9]) for rule in RULES]
        self.assertEqual(len(set(trees)), 6)

    def test_the_boxes_are_those_by_the_tree(self):
        for room, weights in some_asked():
            for rule in RULES:
                tree = rule_tree(rule, room, weights)
                told = by_rule(rule, room, weights)
                self.assertIs(type(told), list)
                self.assertEqual(told, boxes_by(room, weights, tree))

    def test_the_boxes_held_against_a_plain_reckoning(self):
        for rule in RULES:
            for weights in WEIGHTS[:12]:
                boxes = plain_boxes(plainly(WIDE), weights, rule_tree(rule, WIDE, weights))
                self.assertEqual(by_rule(rule, WIDE, weights), [boxes[at] for at in range(len(weights))])


class Halves(unittest.TestCase):
    def test_written_out(self):
        self.assertEqual(halves_tree(SQUARE, [1, 1]), ("across", (0, 1)))
        self.assertEqual(halves_tree(SQUARE, [1, 2, 3]), ("across", (("down", (0, 1)), 2)))
        self.assertEqual(halves_tree(SQUARE, [3, 2, 1]), ("across", (0, ("down", (1, 2)))))
        tree = ("across", (("down", (0, 1)), ("down", (2, 3))))
        self.assertEqual(halves_tree(SQUARE, [1, 1, 1, 1]), tree)
        self.assertEqual(halves_tree(box_of(0, 0, 1, 2), [9, 1, 5, 5]), (
            "down", (("across", (0, 1)), ("across", (2, 3)))))

    def test_the_least_of_two_places_as_near(self):
        self.assertEqual(halves_tree(SQUARE, [1, 1, 1]), ("across", (0, ("down", (1, 2)))))
        self.assertEqual(halves_tree(SQUARE, [2, 4, 2])[1][0], 0)
        self.assertEqual(halves_tree(SQUARE, [1, 1, 2, 1, 1])[1][0], ("down", (0, 1)))
        self.assertEqual(halves_tree(SQUARE, [BIG, 2 * BIG, BIG])[1][0], 0)

    def test_a_great_one_at_each_end(self):
        self.assertEqual(halves_tree(box_of(0, 0, 9, 1), [1, 1, 1, 100])[1][1], 3)
        self.assertEqual(halves_tree(box_of(0, 0, 9, 1), [100, 1, 1, 1])[1][0], 0)
        self.assertEqual(halves_tree(box_of(0, 0, 1, 99), [1, 100, 1]), ("down", (0, ("down", (1, 2)))))

    def test_square_rooms_are_cut_across(self):
        for side in (1, 7, (1, 3), BIG):
            self.assertEqual(halves_tree(box_of(5, 5, side, side), [4, 4])[0], "across")
        # Each half of a room twice as wide as high is square itself.
        tree = halves_tree(box_of(0, 0, 2, 1), [1, 1, 1, 1])
        self.assertEqual(tree, ("across", (("across", (0, 1)), ("across", (2, 3)))))

    def test_each_part_by_its_own_long_way(self):
        tree = halves_tree(box_of(0, 0, 3, 2), [1, 1, 2, 4, 8])
        self.assertEqual(tree, ("across", (("down", (("across", (("down", (0, 1)), 2)), 3)), 4)))

    def test_held_against_a_plain_reckoning(self):
        for room, weights in some_asked():
            self.assertEqual(halves_tree(room, weights), expected_halves(room, weights), (room, weights))


class Thirds(unittest.TestCase):
    def test_written_out(self):
        self.assertEqual(thirds_tree(SQUARE, [1, 1]), ("across", (0, 1)))
        self.assertEqual(thirds_tree(SQUARE, [1, 2]), ("across", (1, 0)))
        self.assertEqual(thirds_tree(SQUARE, [1, 2, 3]), ("across", (2, ("down", (1, 0)))))
        self.assertEqual(thirds_tree(box_of(0, 0, 1, 2), [1, 1]), ("down", (0, 1)))

    def test_a_third_just_come_to(self):
        self.assertEqual(thirds_tree(SQUARE, [1, 1, 1]), ("across", (0, ("down", (1, 2)))))
        self.assertEqual(thirds_tree(SQUARE, [1, 1, 2, 1, 1])[1][0], 2)
        self.assertEqual(thirds_tree(SQUARE, [5, 1, 1, 1, 1, 3, 3])[1][0], 0)
        self.assertEqual(thirds_tree(SQUARE, [BIG, BIG, BIG])[1][0], 0)
        self.assertEqual(thirds_tree(SQUARE, [1] * 6)[1][0], ("down", (0, 1)))

    def test_a_third_just_missed(self):
        self.assertEqual(thirds_tree(SQUARE, [3, 3, 3, 1])[1][0], ("down", (0, 1)))
        self.assertEqual(standing_in(thirds_tree(SQUARE, [1] * 7)[1][0]), [0, 1, 2])
        self.assertEqual(standing_in(thirds_tree(SQUARE, [BIG, BIG, BIG, 1])[1][0]), [0, 1])

    def test_those_of_one_weight_by_rising_numbers(self):
        self.assertEqual(thirds_tree(SQUARE, [1, 3, 1, 3]), ("across", (1, ("down", (3, ("across", (0, 2)))))))
        for room, weights in some_asked():
            order = standing_in(thirds_tree(room, weights))
            self.assertEqual(order, sorted(range(len(weights)), key=lambda at: (-weights[at], at)))

    def test_each_part_likewise(self):
        tree = thirds_tree(SQUARE, [1] * 9)
        self.assertEqual(tree[1][0], ("down", (0, ("down", (1, 2)))))
        self.assertEqual(standing_in(tree[1][1][1][0]), [3, 4])

    def test_held_against_a_plain_reckoning(self):
        for room, weights in some_asked():
            self.assertEqual(thirds_tree(room, weights), plain_thirds(*plainly(room)[2:], weights), (room, weights))


class ThePromise(unittest.TestCase):
    def test_each_rule_parts_each_room_just_by_the_weights(self):
        for room, weights in some_asked():
            for rule in RULES:
                self.assertIs(is_tree(rule_tree(rule, room, weights), len(weights)), True)
                self.assertIsNone(fault(room, weights, by_rule(rule, room, weights)))

    def test_the_order_is_kept(self):
        for room, weights in some_asked():
            for rule in KEEP_ORDER:
                self.assertEqual(standing_in(rule_tree(rule, room, weights)), list(range(len(weights))))

    def test_the_room_turned_over_has_the_same_shapes(self):
        for room, weights in some_asked():
            for rule in ("halves", "rows", "greatest", "thirds"):
                shapes = [shape(box) for box in by_rule(rule, room, weights)]
                self.assertEqual([shape(box) for box in by_rule(rule, turned(room), weights)], shapes)

    def test_across_turned_over_is_down(self):
        for room, weights in some_asked():
            told = by_rule("across", turned(room), weights)
            self.assertEqual([turned(box) for box in told], by_rule("down", room, weights))

    def test_a_room_moved_and_grown_and_weights_taken_so_many_times(self):
        for room, weights in some_asked():
            for rule in RULES:
                tree = rule_tree(rule, room, weights)
                self.assertEqual(rule_tree(rule, moved_and_grown(room), weights), tree)
                for many in (2, 35, PRIME):
                    self.assertEqual(rule_tree(rule, room, [weight * many for weight in weights]), tree)


class WhoseLists(unittest.TestCase):
    def test_the_weights_stay(self):
        deeds = [halves_tree, thirds_tree]
        deeds += [lambda room, weights, rule=rule: rule_tree(rule, room, weights) for rule in RULES]
        deeds += [lambda room, weights, rule=rule: by_rule(rule, room, weights) for rule in RULES]
        for deed in deeds:
            for weights in WEIGHTS:
                kept = list(weights)
                first = deed(WIDE, weights)
                self.assertEqual(weights, kept)
                self.assertEqual(deed(WIDE, weights), first)

    def test_told_lists_are_the_askers_own(self):
        for rule in RULES:
            for weights in ([4], [3, 1, 2]):
                first = by_rule(rule, WIDE, weights)
                kept = list(first)
                first.clear()
                self.assertEqual(by_rule(rule, WIDE, weights), kept)


class Refused(unittest.TestCase):
    def test_texts_that_are_no_rule_ahead_of_all_else(self):
        for deed in (rule_tree, by_rule):
            for rule in NO_RULES:
                for room in (SQUARE, None, (), list(WIDE), box_of(0, 0, 1, 1)[:3]):
                    for weights in ([1, 2], [], None, [0], [True], [1] * 41):
                        with self.subTest(rule=rule), self.assertRaises(NoRule):
                            deed(rule, room, weights)

    def test_what_is_no_text_is_no_rule(self):
        for rule in (None, 0, True, [], ["rows"], ("rows",), {}, b"rows"):
            with self.assertRaises(NoRule):
                rule_tree(rule, None, None)

    def test_rooms_and_weights_in_their_order(self):
        for deed in (halves_tree, thirds_tree):
            check_room_refusals(self, deed)
        for deed in (rule_tree, by_rule):
            for rule in RULES:
                check_room_refusals(self, lambda room, weights: deed(rule, room, weights))

    def test_the_order_written_out(self):
        for rule in RULES:
            for deed in (rule_tree, by_rule):
                with self.assertRaises(NoBox):
                    deed(rule, no_boxes()[0], [0])
                with self.assertRaises(NoWeights):
                    deed(rule, SQUARE, [1] * 40 + [0])
                with self.assertRaises(TooMany):
                    deed(rule, SQUARE, [1] * 41)


if __name__ == "__main__":
    unittest.main()
