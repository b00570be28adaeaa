"""Point 7: boxes parted by a way and weights."""

import random
import unittest
from fractions import Fraction

from samples import (
    BIG, BOXES, NO_WAYS, NO_WEIGHTS, SQUARE, WAYS, WIDE, lists_with_no_weight, no_boxes, number, pair,
)
from weightrooms.errors import NoBox, NoWay, NoWeights, TooMany
from weightrooms.rooms import area, box_of, is_box, parted, turned


def expected(box, way, weights):
    """The parts, reckoned plainly, each one wall after the other."""
    left, top, wide, high = [number(part) for part in box]
    boxes = []
    for weight in weights:
        share = Fraction(weight, sum(weights))
        part = (left, top, wide * share, high) if way == "across" else (left, top, wide, high * share)
        boxes.append(tuple(pair(side) for side in part))
        if way == "across":
            left += part[2]
        else:
            top += part[3]
    return boxes


class Parted(unittest.TestCase):
    def test_across(self):
        room = box_of(1, 2, 12, 5)
        told = parted(room, "across", [1, 2, 3])
        self.assertEqual(told, [box_of(1, 2, 2, 5), box_of(3, 2, 4, 5), box_of(7, 2, 6, 5)])

    def test_down(self):
        room = box_of(1, 2, 5, 12)
        told = parted(room, "down", [3, 2, 1])
        self.assertEqual(told, [box_of(1, 2, 5, 6), box_of(1, 8, 5, 4), box_of(1, 12, 5, 2)])

    def test_shares_that_are_no_whole_numbers(self):
        told = parted(SQUARE, "across", [1, 2])
        self.assertEqual(told, [box_of(0, 0, (1, 3), 1), box_of((1, 3), 0, (2, 3), 1)])
        told = parted(WIDE, "down", [1, 1, 1])
        self.assertEqual([box[1] for box in told], [(3, 4), (47, 36), (67, 36)])
        self.assertEqual([box[3] for box in told], [(5, 9)] * 3)

    def test_one_weight_is_the_whole_box(self):
        for box in BOXES:
            for way in WAYS:
                for weight in (1, 7, BIG):
                    self.assertEqual(parted(box, way, [weight]), [box])

    def test_held_against_a_plain_reckoning(self):
        dice = random.Random(7)
        for box in BOXES:
            for most in (1, 9, BIG):
                for many in (2, 3, 8, 39, 40):
                    weights = [dice.randint(1, most) for _ in range(many)]
                    for way in WAYS:
                        told = parted(box, way, weights)
                        self.assertIs(type(told), list)
                        self.assertEqual(told, expected(box, way, weights))
                        self.assertTrue(all(is_box(part) for part in told))

    def test_the_boxes_touch_and_have_their_shares(self):
        weights = list(range(1, 41))
        for box in BOXES:
            for way in WAYS:
                spot, side = (0, 2) if way == "across" else (1, 3)
                told = parted(box, way, weights)
                self.assertEqual(len(told), 40)
                ends = [number(part[spot]) + number(part[side]) for part in told]
                self.assertEqual(told[0][spot], box[spot])
                self.assertEqual([pair(end) for end in ends[:-1]], [part[spot] for part in told[1:]])
                self.assertEqual(ends[-1], number(box[spot]) + number(box[side]))
                for weight, part in zip(weights, told):
                    self.assertEqual(number(area(part)), number(area(box)) * weight / 820)
                    self.assertEqual((part[1 - spot], part[5 - side]), (box[1 - spot], box[5 - side]))

    def test_alike_weights_keep_their_places(self):
        told = parted(box_of(0, 0, 4, 1), "across", [1, 1, 1, 1])
        self.assertEqual([box[0] for box in told], [(0, 1), (1, 1), (2, 1), (3, 1)])

    def test_turned_over(self):
        for box in BOXES:
            across = parted(turned(box), "across", [3, 1, 4])
            self.assertEqual([turned(part) for part in across], parted(box, "down", [3, 1, 4]))


class WhoseLists(unittest.TestCase):
    def test_the_weights_stay(self):
        for way in WAYS:
            weights = [3, 1, 2]
            parted(SQUARE, way, weights)
            self.assertEqual(weights, [3, 1, 2])

    def test_refused_weights_stay(self):
        weights = [3, True, 2]
        with self.assertRaises(NoWeights):
            parted(SQUARE, "across", weights)
        self.assertEqual(repr(weights), "[3, True, 2]")
        weights = [1] * 41
        with self.assertRaises(TooMany):
            parted(SQUARE, "down", weights)
        self.assertEqual(weights, [1] * 41)

    def test_a_told_list_is_the_askers_own(self):
        for weights in ([1], [1, 2, 3]):
            for way in WAYS:
                first = parted(SQUARE, way, weights)
                kept = list(first)
                second = parted(SQUARE, way, weights)
                self.assertIsNot(first, second)
                first.clear()
                self.assertEqual(second, kept)
                self.assertEqual(parted(SQUARE, way, weights), kept)

    def test_later_changes_of_the_weights_change_no_told_list(self):
        weights = [1, 2]
        told = parted(SQUARE, "across", weights)
        weights[0] = 9
        weights.append(4)
        self.assertEqual(told, parted(SQUARE, "across", [1, 2]))


class Refused(unittest.TestCase):
    def test_what_is_no_box(self):
        for thing in no_boxes():
            with self.subTest(thing=thing), self.assertRaises(NoBox):
                parted(thing, "across", [1, 2])

    def test_texts_that_are_no_way(self):
        for way in NO_WAYS:
            with self.subTest(way=way), self.assertRaises(NoWay):
                parted(SQUARE, way, [1, 2])

    def test_what_is_no_list_of_weights(self):
        for way in WAYS:
            for thing in NO_WEIGHTS:
                with self.subTest(thing=thing), self.assertRaises(NoWeights):
                    parted(SQUARE, way, thing)

    def test_lists_with_what_is_no_weight(self):
        for things in lists_with_no_weight():
            with self.subTest(things=things), self.assertRaises(NoWeights):
                parted(SQUARE, "across", things)

    def test_more_than_forty(self):
        for many in (41, 42, 100):
            for way in WAYS:
                with self.subTest(many=many), self.assertRaises(TooMany):
                    parted(SQUARE, way, [1] * many)
        self.assertEqual(len(parted(SQUARE, "down", [1] * 40)), 40)

    def test_the_order_of_refusals(self):
        late = [1] * 41
        bad = [1] * 40 + [True]
        for weights in ([1], bad, late, None, []):
            for way in ["across"] + NO_WAYS:
                with self.assertRaises(NoBox):
                    parted(None, way, weights)
            for way in NO_WAYS:
                with self.assertRaises(NoWay):
                    parted(SQUARE, way, weights)
        with self.assertRaises(NoWeights):
            parted(SQUARE, "across", bad)


class WhateverFigures(unittest.TestCase):
    def test_told_boxes_are_parted_again(self):
        # Past the figures that Python itself is willing to write out.
        box = SQUARE
        for step in range(200):
            parts = parted(box, WAYS[step % 2], [BIG - step, BIG - 2 * step - 1])
            box = parts[step % 3 % 2]
        self.assertGreater(box[2][1].bit_length(), 8000)
        halves = parted(box, "across", [1, 1])
        self.assertTrue(number(area(halves[0])) * 2 == number(area(box)))
        with self.assertRaises(NoBox):
            parted(box[:3], "across", [1, 1])

    def test_told_numbers_are_weights(self):
        many = BIG ** 200
        told = parted(SQUARE, "down", [many, 3 * many])
        self.assertEqual(told, [box_of(0, 0, 1, (1, 4)), box_of(0, (1, 4), 1, (3, 4))])


if __name__ == "__main__":
    unittest.main()
