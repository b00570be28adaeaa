"""Points 23 and 24: the order of lists of weights, and rules held against one another."""

import itertools
import random
import unittest

from samples import (
    BIG, BOXES, HIGH, NO_RULES, NO_WEIGHTS, PRIME, SQUARE, WEIGHTS, WIDE, lists_with_no_weight, no_boxes, plain_worst,
    plainly,
)
from weightrooms.errors import NoBox, NoRule, NoWeights, TooMany
from weightrooms.held import first_better, list_behind
from weightrooms.rooms import box_of, turned
from weightrooms.rules import RULES, rule_tree

# Anything but a whole number from 1 to 8.
NO_MOST = [
    0, 9, 10, -1, -8, BIG, -BIG, True, False, None, "", "1", "8", b"8", [], [1], [8], (), (1,), (8, 1), {}, {1: 1},
    set(), object(), int,
]


def lists_of(whole, many):
    """All lists of so many weights with a sum, in whatever order."""
    found = []
    for cuts in itertools.combinations(range(1, whole), many - 1):
        ends = (0,) + cuts + (whole,)
        found.append([end - begin for begin, end in zip(ends, ends[1:])])
    return found


def place(weights):
    """Where a list stands in the order."""
    return (sum(weights), len(weights), weights)


def lists_up_to(most):
    """All lists up to a sum, in their order."""
    counts = [(whole, many) for whole in range(1, most + 1) for many in range(1, whole + 1)]
    return sorted([weights for whole, many in counts for weights in lists_of(whole, many)], key=place)


def next_by_cuts(weights):
    """The list behind one, told by the next lot of cuts through a row of as many ones as its sum."""
    whole, many = sum(weights), len(weights)
    cuts = [sum(weights[:at]) for at in range(1, many)]
    for at in range(many - 2, -1, -1):
        if cuts[at] < whole - (many - 1 - at):
            cuts[at:] = [cuts[at] + step for step in range(1, many - at)]
            ends = [0] + cuts + [whole]
            return [end - begin for begin, end in zip(ends, ends[1:])]
    if many < min(whole, 40):
        return [1] * many + [whole - many]
    return [whole + 1]


class ListBehind(unittest.TestCase):
    def test_the_first_ones_written_out(self):
        walked = [[1]]
        for _ in range(15):
            walked.append(list_behind(walked[-1]))
        self.assertEqual(walked, [
            [1], [2], [1, 1], [3], [1, 2], [2, 1], [1, 1, 1], [4], [1, 3], [2, 2], [3, 1], [1, 1, 2], [1, 2, 1],
            [2, 1, 1], [1, 1, 1, 1], [5],
        ])

    def test_lists_of_one_weight(self):
        self.assertEqual(list_behind([1]), [2])
        for weight in (2, 3, 9, 40, 41, BIG):
            self.assertEqual(list_behind([weight]), [1, weight - 1])

    def test_ones_alone(self):
        for many in range(1, 41):
            self.assertEqual(list_behind([1] * many), [many + 1])

    def test_the_last_of_its_length(self):
        self.assertEqual(list_behind([3, 1]), [1, 1, 2])
        self.assertEqual(list_behind([9, 1, 1, 1]), [1, 1, 1, 1, 8])
        self.assertEqual(list_behind([BIG, 1]), [1, 1, BIG - 1])
        self.assertEqual(list_behind([BIG] + [1] * 38), [1] * 39 + [BIG - 1])

    def test_forty_weights_are_followed_by_a_greater_sum(self):
        self.assertEqual(list_behind([1] * 40), [41])
        self.assertEqual(list_behind([2] + [1] * 39), [42])
        self.assertEqual(list_behind([BIG] + [1] * 39), [BIG + 40])
        self.assertEqual(list_behind([1] * 39 + [2]), [1] * 38 + [2, 1])

    def test_thirty_figures(self):
        self.assertEqual(list_behind([BIG, BIG]), [BIG + 1, BIG - 1])
        self.assertEqual(list_behind([PRIME, BIG, 1]), [PRIME + 1, 1, BIG - 1])
        self.assertEqual(list_behind([PRIME, 1, BIG]), [PRIME, 2, BIG - 1])
        self.assertEqual(list_behind([1, 1, BIG, 1, 1]), [1, 2, 1, 1, BIG - 1])

    def test_each_list_of_a_small_sum_is_met_once_in_order(self):
        expected = lists_up_to(11)
        self.assertEqual(len(expected), 2 ** 11 - 1)
        weights = [1]
        for at, there in enumerate(expected):
            self.assertEqual(weights, there, at)
            weights = list_behind(weights)
        self.assertEqual(weights, [12])

    def test_all_lists_of_forty_weights_and_a_sum(self):
        for whole in (40, 41, 42):
            expected = sorted(lists_of(whole, 40)) + [[whole + 1]]
            for one, other in zip(expected, expected[1:]):
                self.assertEqual(list_behind(one), other)
            last = [whole - 38] + [1] * 38
            self.assertEqual(list_behind(last), expected[0])

    def test_held_against_the_next_lot_of_cuts(self):
        dice = random.Random(23)
        lists = [list(weights) for weights in WEIGHTS]
        for _ in range(1500):
            most = dice.choice((1, 2, 3, 9, BIG))
            lists.append([dice.choice((1, 1, dice.randint(1, most))) for _ in range(dice.randint(1, 40))])
        for weights in lists:
            told = list_behind(weights)
            self.assertEqual(told, next_by_cuts(weights), weights)
            self.assertLess(place(weights), place(told))
            self.assertLessEqual(len(told), 40)

    def test_the_list_stays_and_the_told_one_is_the_askers_own(self):
        for weights in ([1], [4], [1, 1], [3, 1], [1, 3], [1] * 40, [2, 5, 1]):
            kept = list(weights)
            first = list_behind(weights)
            again = list(first)
            self.assertIs(type(first), list)
            self.assertEqual(weights, kept)
            first.append(9)
            first[0] = 0
            self.assertEqual(weights, kept)
            self.assertEqual(list_behind(weights), again)

    def test_refused(self):
        for thing in list(NO_WEIGHTS) + list(lists_with_no_weight()):
            with self.subTest(weights=thing), self.assertRaises(NoWeights):
                list_behind(thing)
        for many in (41, 42, 90):
            with self.assertRaises(TooMany):
                list_behind([1] * many)
            with self.assertRaises(NoWeights):
                list_behind([1] * many + [0])


class FirstBetter(unittest.TestCase):
    ROOMS = [SQUARE, WIDE, HIGH, box_of(0, 0, 7, 2), box_of((1, 7), (-2, 9), (5, 3), (4, 3))]

    @classmethod
    def setUpClass(cls):
        cls.lists = lists_up_to(8)
        cls.worsts = []
        for room in cls.ROOMS:
            sides = plainly(room)[2:]
            table = {rule: [plain_worst(*sides, weights, rule_tree(rule, room, weights)) for weights in cls.lists]
                     for rule in RULES}
            cls.worsts.append((room, table))

    def expected(self, table, one, other, most):
        for weights, left, right in zip(self.lists, table[one], table[other]):
            if sum(weights) <= most and left < right:
                return weights
        return None

    def test_written_out(self):
        self.assertEqual(first_better("down", "across", HIGH, 8), [1, 1])
        self.assertEqual(first_better("halves", "across", SQUARE, 8), [1, 1, 2])
        self.assertEqual(first_better("halves", "across", SQUARE, 4), [1, 1, 2])
        self.assertIsNone(first_better("halves", "across", SQUARE, 3))
        self.assertIsNone(first_better("across", "down", SQUARE, 8))

    def test_one_rule_twice(self):
        for rule in RULES:
            for room in self.ROOMS:
                self.assertIsNone(first_better(rule, rule, room, 6))
            self.assertIsNone(first_better(rule, rule, SQUARE, 8))

    def test_all_pairs_held_against_all_lists(self):
        for room, table in self.worsts:
            for one, other in itertools.permutations(RULES, 2):
                with self.subTest(one=one, other=other, room=room):
                    told = first_better(one, other, room, 8)
                    self.assertEqual(told, self.expected(table, one, other, 8))

    def test_each_most(self):
        for room, table in self.worsts[:3]:
            for one, other in (("halves", "thirds"), ("thirds", "halves"), ("greatest", "rows"), ("down", "across")):
                for most in range(1, 8):
                    told = first_better(one, other, room, most)
                    self.assertEqual(told, self.expected(table, one, other, most), (one, other, room, most))

    def test_across_and_down_are_exchanged_by_turning_the_room(self):
        for room in self.ROOMS:
            for most in (2, 4):
                told = first_better("across", "down", room, most)
                self.assertEqual(first_better("down", "across", turned(room), most), told)

    def test_of_thirty_figures(self):
        for room in BOXES:
            self.assertIsNone(first_better("rows", "rows", room, 3))
        self.assertEqual(first_better("across", "down", box_of(0, 0, BIG, 1), 8), [1, 1])

    def test_the_told_list_is_the_askers_own(self):
        first = first_better("halves", "across", SQUARE, 8)
        self.assertIs(type(first), list)
        first.append(7)
        self.assertEqual(first_better("halves", "across", SQUARE, 8), [1, 1, 2])

    def test_texts_that_are_no_rules_ahead_of_all_else(self):
        for rule in NO_RULES:
            for room, most in ((SQUARE, 8), (None, 8), (SQUARE, 0), (None, None)):
                for one, other in ((rule, "rows"), ("rows", rule), (rule, rule)):
                    with self.subTest(one=one, other=other), self.assertRaises(NoRule):
                        first_better(one, other, room, most)

    def test_rooms_that_are_none_ahead_of_most(self):
        for thing in no_boxes():
            for most in (1, 8, 0, 9, None):
                with self.subTest(room=thing, most=most), self.assertRaises(NoBox):
                    first_better("rows", "thirds", thing, most)

    def test_most_that_is_none(self):
        for most in NO_MOST:
            for one, other in (("rows", "thirds"), ("across", "across")):
                with self.subTest(most=most), self.assertRaises(NoWeights):
                    first_better(one, other, SQUARE, most)
        for most in range(1, 9):
            self.assertIsNone(first_better("down", "down", SQUARE, min(most, 4)))
            first_better("down", "across", HIGH, most)


if __name__ == "__main__":
    unittest.main()
