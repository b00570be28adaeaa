"""Points 6 and 10: boxes, and boxes turned over."""

import random
import unittest
from fractions import Fraction

from samples import BIG, BOXES, HIGH, NO_PARTS, NO_SIDES, PRIME, SQUARE, VAST, WIDE, no_boxes, number, pair, with_part
from weightrooms.errors import NoBox
from weightrooms.fracs import fraction
from weightrooms.rooms import area, box_of, cut_in_two, is_box, long_way, other_way, shape, turned


def some_boxes():
    """Boxes drawn by a die that always falls the same."""
    dice = random.Random(6)
    boxes = list(BOXES)
    for most in (3, 12, BIG):
        for _ in range(60):
            spots = [fraction(dice.randint(-most, most), dice.randint(1, most)) for _ in range(2)]
            sides = [fraction(dice.randint(1, most), dice.randint(1, most)) for _ in range(2)]
            boxes.append(tuple(spots + sides))
    return boxes


class BoxOf(unittest.TestCase):
    def test_of_fractions(self):
        for box in some_boxes():
            self.assertEqual(box_of(*box), box)

    def test_of_whole_numbers(self):
        self.assertEqual(box_of(0, 0, 1, 1), SQUARE)
        self.assertEqual(box_of(-3, 4, 5, 6), ((-3, 1), (4, 1), (5, 1), (6, 1)))
        self.assertEqual(box_of(-BIG, BIG, BIG, BIG), ((-BIG, 1), (BIG, 1), (BIG, 1), (BIG, 1)))

    def test_of_both_mixed(self):
        self.assertEqual(box_of((1, 2), 3, (5, 7), 1), ((1, 2), (3, 1), (5, 7), (1, 1)))
        self.assertEqual(box_of(-1, (3, 4), 2, (1, BIG)), ((-1, 1), (3, 4), (2, 1), (1, BIG)))
        for at in range(4):
            self.assertEqual(box_of(*with_part(WIDE, at, 9)), with_part(WIDE, at, (9, 1)))

    def test_all_of_it_is_of_tuples_and_ints(self):
        box = box_of(0, (1, 2), 3, (4, 5))
        self.assertIs(type(box), tuple)
        for part in box:
            self.assertIs(type(part), tuple)
            self.assertEqual([type(figure) for figure in part], [int, int])

    def test_left_and_top_may_be_nought_or_below(self):
        self.assertEqual(box_of((0, 1), (-1, 2), 1, 1), ((0, 1), (-1, 2), (1, 1), (1, 1)))

    def test_what_is_no_fraction_is_refused_at_each_place(self):
        for whole in (WIDE, (0, 0, 1, 1)):
            for at in range(4):
                for part in NO_PARTS:
                    with self.subTest(at=at, part=part), self.assertRaises(NoBox):
                        box_of(*with_part(whole, at, part))

    def test_sides_of_nought_or_below_are_refused(self):
        for whole in (WIDE, (0, 0, 1, 1)):
            for at in (2, 3):
                for part in NO_SIDES:
                    with self.subTest(at=at, part=part), self.assertRaises(NoBox):
                        box_of(*with_part(whole, at, part))

    def test_what_is_handed_in_and_refused_stays(self):
        part = [1, 2]
        with self.assertRaises(NoBox):
            box_of(0, 0, part, 1)
        self.assertEqual(part, [1, 2])


class IsBox(unittest.TestCase):
    def test_of_boxes(self):
        for box in some_boxes():
            self.assertIs(is_box(box), True)

    def test_of_anything_else(self):
        for thing in no_boxes():
            with self.subTest(thing=thing):
                self.assertIs(is_box(thing), False)

    def test_of_what_lies_deep(self):
        thing = ()
        for _ in range(82):
            thing = (thing, [thing])
        self.assertIs(is_box(thing), False)
        self.assertIs(is_box((thing, thing, thing, thing)), False)
        self.assertIs(is_box(with_part(SQUARE, 3, thing)), False)

    def test_of_a_list_that_holds_itself(self):
        thing = [1, 2, 3]
        thing.append(thing)
        self.assertIs(is_box(thing), False)
        self.assertIs(is_box((thing,) * 4), False)


class Refused(unittest.TestCase):
    def test_what_is_no_box(self):
        for deed in (area, shape, long_way, turned):
            for thing in no_boxes():
                with self.subTest(deed=deed.__name__, thing=thing), self.assertRaises(NoBox):
                    deed(thing)


class Sides(unittest.TestCase):
    def test_area(self):
        self.assertEqual(area(SQUARE), (1, 1))
        self.assertEqual(area(WIDE), (35, 6))
        self.assertEqual(area(HIGH), (3, 1))
        self.assertEqual(area(VAST), pair(Fraction(PRIME, 2)))
        self.assertEqual(area(box_of(5, 5, 4, (3, 2))), (6, 1))

    def test_shape(self):
        self.assertEqual(shape(SQUARE), (1, 1))
        self.assertEqual(shape(box_of(3, -1, (7, 5), (7, 5))), (1, 1))
        self.assertEqual(shape(WIDE), (21, 10))
        self.assertEqual(shape(HIGH), (27, 1))
        self.assertEqual(shape(box_of(0, 0, 3, 2)), (3, 2))
        self.assertEqual(shape(box_of(0, 0, 2, 3)), (3, 2))

    def test_long_way(self):
        self.assertEqual(long_way(SQUARE), "across")
        self.assertEqual(long_way(WIDE), "across")
        self.assertEqual(long_way(HIGH), "down")
        self.assertEqual(long_way(box_of(0, 0, BIG, BIG)), "across")
        self.assertEqual(long_way(box_of(0, 0, BIG - 1, BIG)), "down")
        self.assertEqual(long_way(box_of(0, 0, BIG, BIG - 1)), "across")

    def test_other_way(self):
        self.assertEqual(other_way("across"), "down")
        self.assertEqual(other_way("down"), "across")

    def test_cut_in_two(self):
        self.assertEqual(cut_in_two(box_of(0, 0, 6, 2), [1, 1, 4], 1), [box_of(0, 0, 1, 2), box_of(1, 0, 5, 2)])
        self.assertEqual(cut_in_two(box_of(0, 0, 2, 6), [1, 1, 4], 2), [box_of(0, 0, 2, 2), box_of(0, 2, 2, 4)])

    def test_many(self):
        for box in some_boxes():
            wide, high = number(box[2]), number(box[3])
            self.assertEqual(area(box), pair(wide * high))
            self.assertEqual(shape(box), pair(max(wide, high) / min(wide, high)))
            self.assertEqual(long_way(box), "down" if high > wide else "across")


class Turned(unittest.TestCase):
    def test_written_out(self):
        self.assertEqual(turned(box_of(1, 2, 3, 4)), box_of(2, 1, 4, 3))
        self.assertEqual(turned(SQUARE), SQUARE)
        self.assertEqual(turned(WIDE), ((3, 4), (-1, 2), (5, 3), (7, 2)))

    def test_twice_it_is_the_box_again(self):
        for box in some_boxes():
            over = turned(box)
            self.assertEqual(over, (box[1], box[0], box[3], box[2]))
            self.assertIs(is_box(over), True)
            self.assertEqual(turned(over), box)
            self.assertEqual(area(over), area(box))
            self.assertEqual(shape(over), shape(box))


class WhateverFigures(unittest.TestCase):
    def test_boxes_of_many_figures(self):
        # Past the figures that Python itself is willing to write out.
        much = PRIME ** 200
        box = box_of((-much, much - 1), (1, much), (much, much - 1), (much - 1, much))
        self.assertIs(is_box(box), True)
        self.assertTrue(area(box) == (1, 1))
        self.assertTrue(shape(box) == (much ** 2, (much - 1) ** 2))
        self.assertEqual(long_way(box), "across")
        self.assertEqual(long_way(turned(box)), "down")
        self.assertIs(is_box(with_part(box, 2, (much * 2, much * 3))), False)
        for deed in (area, shape, long_way, turned):
            with self.assertRaises(NoBox):
                deed(with_part(box, 3, (-much, 1)))


if __name__ == "__main__":
    unittest.main()
