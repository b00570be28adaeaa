"""Points 29, 30 and 31: the weights and the tree of drawn boxes, and what lies in what."""

import math
import random
import unittest
from fractions import Fraction

from samples import (
    BIG, BOXES, HIGH, PRIME, SQUARE, VAST, WAYS, WEIGHTS, WIDE, WOUND, chain, chain_back, drawn_likewise, mixed,
    no_boxes, number, plainly, some_tree,
)
from weightrooms.back import lies_in, tree_back, weights_back
from weightrooms.errors import NoBox, NoCut, TooMany
from weightrooms.looker import fault
from weightrooms.nests import nested
from weightrooms.rooms import area, box_of, parted, turned
from weightrooms.rules import RULES, by_rule
from weightrooms.trees import boxes_by, is_tree, plain_form, turned_tree

WOUND_ROOM = box_of(0, 0, 3, 3)


def wound_in(room):
    """The five wound boxes, drawn in a room."""
    return [drawn_likewise(parts, room) for parts in WOUND]


def turning(dice, things, way):
    """A tree in plain form whose ways go by turns, of the things in this order, as the die falls."""
    if len(things) == 1:
        return things[0]
    many = dice.randint(2, min(5, len(things)))
    cuts = [0] + sorted(dice.sample(range(1, len(things)), many - 1)) + [len(things)]
    other = "down" if way == "across" else "across"
    return (way, tuple(turning(dice, things[begin:end], other) for begin, end in zip(cuts, cuts[1:])))


def plain_back(boxes, numbers):
    """The tree of boxes, by trying each line where one begins; a list of numbers where there is none."""
    if len(numbers) == 1:
        return numbers[0]
    sides = {at: plainly(boxes[at]) for at in numbers}
    for axis, way in enumerate(WAYS):
        begins = sorted({sides[at][axis] for at in numbers})
        lines = [line for line in begins[1:] if all(
            not sides[at][axis] < line < sides[at][axis] + sides[at][axis + 2] for at in numbers)]
        if lines:
            ends = [begins[0]] + lines + [None]
            trees = []
            for begin, end in zip(ends, ends[1:]):
                lot = [at for at in numbers if begin <= sides[at][axis] and (end is None or sides[at][axis] < end)]
                trees.append(plain_back(boxes, lot))
                if isinstance(trees[-1], list):
                    return trees[-1]
            return (way, tuple(trees))
    return numbers


class WeightsBack(unittest.TestCase):
    def test_one_box(self):
        for box in BOXES:
            self.assertEqual(weights_back([box]), [1])

    def test_alike_ones(self):
        for box in BOXES:
            for many in (2, 3, 40, 41):
                self.assertEqual(weights_back([box] * many), [1] * many)
        self.assertEqual(weights_back([box_of(0, 0, 2, 3), box_of(9, 9, 6, 1), box_of(0, 0, 1, 6)]), [1, 1, 1])

    def test_written_out(self):
        self.assertEqual(weights_back([box_of(0, 0, 2, 3), box_of(0, 0, 2, 2)]), [3, 2])
        self.assertEqual(weights_back([box_of(0, 0, 2, 2), box_of(5, 5, 4, 4), box_of(0, 0, 6, 4)]), [1, 4, 6])
        self.assertEqual(weights_back([box_of(0, 0, (1, 2), (1, 3)), box_of(0, 0, (1, 5), (1, 2))]), [5, 3])
        self.assertEqual(weights_back([box_of(0, 0, (1, 2), 1), box_of(0, 0, 1, (3, 4)), SQUARE]), [2, 3, 4])
        self.assertEqual(weights_back([box_of(0, 0, BIG, BIG), SQUARE]), [BIG * BIG, 1])

    def test_as_the_areas_and_no_number_divides_all(self):
        dice = random.Random(29)
        for _ in range(150):
            most = dice.choice((3, 30, BIG, BIG ** 3))
            boxes = [box_of(dice.randint(-9, 9), 0, *[(part.numerator, part.denominator) for part in (
                Fraction(dice.randint(1, most), dice.randint(1, most)) for _ in range(2))])
                for _ in range(dice.choice((1, 2, 3, 8, 41)))]
            told = weights_back(boxes)
            self.assertIs(type(told), list)
            self.assertEqual(math.gcd(*told), 1)
            for box, weight in zip(boxes, told):
                self.assertIs(type(weight), int)
                self.assertEqual(number(area(box)) * told[0], number(area(boxes[0])) * weight)

    def test_of_partings(self):
        for room in (SQUARE, VAST):
            for weights in WEIGHTS:
                least = [weight // math.gcd(*weights) for weight in weights]
                for rule in ("across", "thirds"):
                    self.assertEqual(weights_back(by_rule(rule, room, weights)), least)

    def test_the_list_stays_and_the_told_one_is_the_askers_own(self):
        boxes = [SQUARE, WIDE]
        first = weights_back(boxes)
        first.append(1)
        self.assertEqual(boxes, [SQUARE, WIDE])
        self.assertEqual(weights_back(boxes), [6, 35])

    def test_what_is_no_box(self):
        for thing in no_boxes():
            for boxes in ([thing], [thing, SQUARE], [SQUARE, WIDE, thing]):
                with self.subTest(thing=thing), self.assertRaises(NoBox):
                    weights_back(boxes)


class TreeBack(unittest.TestCase):
    def test_one_box(self):
        for room in BOXES:
            self.assertEqual(tree_back(room, [room]), 0)

    def test_side_by_side_and_one_beneath_another(self):
        for room in BOXES:
            for way in WAYS:
                for weights in ([1, 1], [3, 1, 2], [BIG, 1], [1] * 40):
                    boxes = parted(room, way, weights)
                    self.assertEqual(tree_back(room, boxes), (way, tuple(range(len(weights)))))
                    order = tuple(range(len(weights)))[::-1]
                    self.assertEqual(tree_back(room, boxes[::-1]), (way, order))

    def test_grids_are_cut_across_first(self):
        for many in (2, 3, 6):
            boxes = [box_of(left, top, 1, 1) for top in range(many) for left in range(many)]
            columns = tuple(("down", tuple(left + many * top for top in range(many))) for left in range(many))
            self.assertEqual(tree_back(box_of(0, 0, many, many), boxes), ("across", columns))
        boxes = [box_of(0, 0, 2, 1), box_of(2, 0, 1, 1), box_of(0, 1, 2, 5), box_of(2, 1, 1, 5)]
        self.assertEqual(tree_back(box_of(0, 0, 3, 6), boxes), ("across", (("down", (0, 2)), ("down", (1, 3)))))

    def test_trees_in_plain_form_by_turns_are_told_again(self):
        dice = random.Random(30)
        for _ in range(200):
            many = dice.randint(1, 40)
            tree = turning(dice, mixed(dice, range(many)), dice.choice(WAYS))
            # Weights of so many figures that no line of a part goes on in the next one.
            weights = [dice.randint(1, BIG) for _ in range(many)]
            room = dice.choice(BOXES)
            boxes = boxes_by(room, weights, tree)
            kept = list(boxes)
            self.assertEqual(tree_back(room, boxes), tree)
            self.assertEqual(boxes, kept)

    def test_chains_of_forty(self):
        dice = random.Random(300)
        for make in (chain, chain_back):
            for ways in (("across", "down"), ("down", "across")):
                tree = make(mixed(dice, range(40)), ways)
                for room in (SQUARE, VAST):
                    boxes = boxes_by(room, [dice.randint(1, BIG) for _ in range(40)], tree)
                    self.assertEqual(tree_back(room, boxes), tree)

    def test_partings_by_each_rule(self):
        for room in (SQUARE, WIDE, HIGH):
            for weights in WEIGHTS:
                for rule in RULES:
                    boxes = by_rule(rule, room, weights)
                    tree = tree_back(room, boxes)
                    self.assertEqual(tree, plain_back(boxes, list(range(len(boxes)))))
                    self.assertEqual(boxes_by(room, weights, tree), boxes)
                    self.assertIs(is_tree(tree, len(weights)), True)
                    self.assertEqual(plain_form(tree), tree)

    def test_small_trees_with_lines_that_go_on(self):
        dice = random.Random(301)
        for _ in range(400):
            many = dice.randint(1, 9)
            weights = [dice.randint(1, 2) for _ in range(many)]
            tree = some_tree(dice, mixed(dice, range(many)), 3)
            room = dice.choice((SQUARE, WIDE, HIGH))
            boxes = boxes_by(room, weights, tree)
            told = tree_back(room, boxes)
            self.assertEqual(told, plain_back(boxes, list(range(many))))
            self.assertEqual(boxes_by(room, weights, told), boxes)

    def test_turned_over(self):
        dice = random.Random(302)
        for _ in range(60):
            many = dice.randint(1, 12)
            tree = turning(dice, mixed(dice, range(many)), dice.choice(WAYS))
            boxes = boxes_by(WIDE, [dice.randint(1, BIG) for _ in range(many)], tree)
            if tree_back(WIDE, boxes) == tree:
                over = [turned(box) for box in boxes]
                self.assertEqual(tree_back(turned(WIDE), over), turned_tree(tree))
        # A room that is cut both ways through is cut across first, turned over or not.
        grid = [box_of(0, 0, 1, 1), box_of(1, 0, 1, 1), box_of(0, 1, 1, 1), box_of(1, 1, 1, 1)]
        self.assertEqual(tree_back(box_of(0, 0, 2, 2), grid), ("across", (("down", (0, 2)), ("down", (1, 3)))))
        over = [turned(box) for box in grid]
        self.assertEqual(tree_back(box_of(0, 0, 2, 2), over), ("across", (("down", (0, 1)), ("down", (2, 3)))))

    def test_a_line_that_ends_at_a_box_cuts_nothing(self):
        boxes = [box_of(0, 0, 1, 2), box_of(1, 0, 2, 1), box_of(1, 1, 1, 1), box_of(2, 1, 1, 1)]
        tree = ("across", (0, ("down", (1, ("across", (2, 3))))))
        self.assertEqual(tree_back(box_of(0, 0, 3, 2), boxes), tree)
        boxes = [box_of(0, 0, 3, 1), box_of(0, 1, 1, 1), box_of(1, 1, 1, 1), box_of(2, 1, 1, 1)]
        self.assertEqual(tree_back(box_of(0, 0, 3, 2), boxes), ("down", (0, ("across", (1, 2, 3)))))

    def test_figures_without_an_end(self):
        room = box_of((1, BIG ** 40), (-7, PRIME ** 30), (BIG ** 50, 2), (1, PRIME ** 60))
        tree = ("down", (2, ("across", (0, ("down", (3, 1)))), 4))
        boxes = boxes_by(room, [BIG, 7, PRIME, 1, BIG - 1], tree)
        self.assertEqual(tree_back(room, boxes), tree)


class NoCutAtAll(unittest.TestCase):
    def refuse(self, room, boxes, numbers):
        with self.assertRaises(NoCut) as caught:
            tree_back(room, boxes)
        self.assertIs(type(caught.exception.numbers), list)
        self.assertEqual(caught.exception.numbers, numbers)

    def test_five_boxes_wound_about_one(self):
        self.refuse(WOUND_ROOM, wound_in(WOUND_ROOM), [0, 1, 2, 3, 4])
        self.refuse(WOUND_ROOM, wound_in(WOUND_ROOM)[::-1], [0, 1, 2, 3, 4])
        for room in BOXES:
            self.refuse(room, wound_in(room), [0, 1, 2, 3, 4])
            self.refuse(turned(room), [turned(box) for box in wound_in(room)], [0, 1, 2, 3, 4])

    def test_deep_within_a_tree(self):
        dice = random.Random(303)
        for make in (chain, chain_back):
            for many in (2, 5, 30, 36):
                boxes = boxes_by(WIDE, [dice.randint(1, BIG) for _ in range(many)], make(list(range(many))))
                at = dice.randrange(many)
                drawn = boxes[:at] + boxes[at + 1:] + wound_in(boxes[at])
                order = mixed(dice, range(len(drawn)))
                numbers = sorted(place for place, there in enumerate(order) if there >= many - 1)
                self.refuse(WIDE, [drawn[there] for there in order], numbers)

    def test_one_wound_within_another(self):
        boxes = wound_in(WOUND_ROOM)
        boxes[2:3] = wound_in(boxes[2])
        self.refuse(WOUND_ROOM, boxes, list(range(9)))

    def test_of_several_the_first_met(self):
        for way, rooms in (("across", [box_of(0, 0, 3, 3), box_of(3, 0, 3, 3)]),
                           ("down", [box_of(0, 0, 3, 3), box_of(0, 3, 3, 3)])):
            first, second = wound_in(rooms[0]), wound_in(rooms[1])
            room = box_of(0, 0, 6, 3) if way == "across" else box_of(0, 0, 3, 6)
            self.refuse(room, first + second, [0, 1, 2, 3, 4])
            self.refuse(room, second + first, [5, 6, 7, 8, 9])
            self.refuse(room, [box for two in zip(second, first) for box in two], [1, 3, 5, 7, 9])

    def test_each_part_with_all_in_it_ahead_of_the_next_one(self):
        # The lot in the first part lies deeper, and is met ahead of the whole second part.
        room = box_of(0, 0, 12, 6)
        left, right = box_of(0, 0, 6, 6), box_of(6, 0, 6, 6)
        deep = boxes_by(left, [1, 1, 1, 1], ("down", (0, ("across", (1, ("down", (2, 3)))))))
        boxes = wound_in(right) + deep[:3] + wound_in(deep[3])
        self.refuse(room, boxes, [8, 9, 10, 11, 12])

    def test_the_numbers_are_a_list_of_their_own(self):
        with self.assertRaises(NoCut) as caught:
            tree_back(WOUND_ROOM, wound_in(WOUND_ROOM))
        caught.exception.numbers.clear()
        self.refuse(WOUND_ROOM, wound_in(WOUND_ROOM), [0, 1, 2, 3, 4])


class TreeBackRefused(unittest.TestCase):
    FOUR = boxes_by(WIDE, [1, 2, 3, 4], ("across", (0, ("down", (1, ("across", (2, 3)))))))

    def refuse(self, error, room, boxes):
        with self.subTest(room=room, boxes=boxes):
            kept = list(boxes)
            with self.assertRaises(error):
                tree_back(room, boxes)
            self.assertEqual(boxes, kept)

    def test_rooms_that_are_none(self):
        for thing in no_boxes():
            for boxes in ([SQUARE], [], [SQUARE] * 41, [None]):
                self.refuse(NoBox, thing, boxes)

    def test_a_box_that_is_none_at_any_place(self):
        for thing in no_boxes():
            for at in range(5):
                self.refuse(NoBox, WIDE, self.FOUR[:at] + [thing] + self.FOUR[at:])
        for at in (0, 20, 40):
            boxes = parted(SQUARE, "across", [1] * 40)
            self.refuse(NoBox, SQUARE, boxes[:at] + [None] + boxes[at:])

    def test_forty_one_boxes(self):
        boxes = [box_of(left, 0, 1, 1) for left in range(41)]
        self.refuse(TooMany, box_of(0, 0, 41, 1), boxes)
        # Ahead of boxes that do not part the room.
        self.refuse(TooMany, SQUARE, boxes)
        self.refuse(TooMany, SQUARE, [SQUARE] * 41)
        self.assertEqual(tree_back(box_of(0, 0, 40, 1), boxes[:40]), ("across", tuple(range(40))))

    def test_no_boxes(self):
        for room in BOXES:
            self.refuse(NoBox, room, [])

    def test_boxes_that_do_not_part_the_room(self):
        for at, box in enumerate(self.FOUR):
            rest = self.FOUR[:at] + self.FOUR[at + 1:]
            left, top, wide, high = plainly(box)
            self.refuse(NoBox, WIDE, rest)
            self.refuse(NoBox, WIDE, rest + [box, box])
            for sides in ((left + 1, top, wide, high), (left, top - Fraction(1, BIG), wide, high),
                          (left, top, wide * 2, high), (left, top, wide, high / 3),
                          (left, top, wide * 2, high / 2), (left, top, wide + Fraction(1, PRIME), high)):
                moved = box_of(*[(part.numerator, part.denominator) for part in sides])
                self.refuse(NoBox, WIDE, self.FOUR[:at] + [moved] + self.FOUR[at + 1:])
        self.refuse(NoBox, SQUARE, self.FOUR)
        self.refuse(NoBox, SQUARE, [WIDE])
        self.refuse(NoBox, SQUARE, [SQUARE, SQUARE])
        # Two over one another and a gap: the areas come to that of the room.
        self.refuse(NoBox, box_of(0, 0, 3, 1), [box_of(0, 0, 1, 1), box_of(0, 0, 1, 1), box_of(2, 0, 1, 1)])

    def test_wound_boxes_with_a_gap(self):
        four = wound_in(WOUND_ROOM)[:4]
        self.refuse(NoBox, WOUND_ROOM, four)
        self.refuse(NoBox, WOUND_ROOM, four + [box_of(0, 0, 1, 1)])


def plain_around(rooms):
    """What lies in what, by the least of all that lie around."""
    told = []
    for name, box in rooms:
        left, top, wide, high = plainly(box)
        around = []
        for other, room in rooms:
            begin, upper, across, down = plainly(room)
            if begin <= left and upper <= top and left + wide <= begin + across and top + high <= upper + down:
                if across * down > wide * high:
                    around.append((across * down, other))
        told.append((name, min(around)[1] if around else None))
    return told


class LiesIn(unittest.TestCase):
    def test_none_and_one(self):
        self.assertEqual(lies_in([]), [])
        for box in BOXES:
            self.assertEqual(lies_in([("a", box)]), [("a", None)])

    def test_boxes_within_boxes(self):
        rooms = [("c", box_of(1, 1, 1, 1)), ("a", box_of(0, 0, 9, 9)), ("b", box_of(1, 1, 3, 3))]
        rooms.append(("d", box_of(5, 5, 9, 9)))
        self.assertEqual(lies_in(rooms), [("c", "b"), ("a", None), ("b", "a"), ("d", None)])

    def test_walls_in_common(self):
        rooms = [("a", box_of(0, 0, 4, 4)), ("b", box_of(0, 0, 4, 2)), ("c", box_of(2, 0, 2, 2))]
        rooms.append(("d", box_of(3, 1, 1, 2)))
        self.assertEqual(lies_in(rooms), [("a", None), ("b", "a"), ("c", "b"), ("d", "a")])

    def test_a_hair_beyond_a_wall(self):
        room = box_of(0, 0, 4, 4)
        for box in (box_of((-1, BIG), 1, 1, 1), box_of(1, (-1, BIG), 1, 1), box_of(3, 1, (BIG + 1, BIG), 1),
                    box_of(1, 3, 1, (BIG + 1, BIG))):
            self.assertEqual(lies_in([("a", room), ("b", box)]), [("a", None), ("b", None)])

    def test_alike_ones(self):
        self.assertEqual(lies_in([("b", SQUARE), ("a", SQUARE)]), [("b", None), ("a", None)])
        rooms = [("b", box_of(0, 0, 2, 2)), ("a", box_of(0, 0, 2, 2)), ("z", SQUARE), ("y", SQUARE)]
        self.assertEqual(lies_in(rooms), [("b", None), ("a", None), ("z", "a"), ("y", "a")])

    def test_ones_of_like_area_go_by_names(self):
        rooms = [("x", box_of(0, 0, 6, 2)), ("ab", box_of(0, 0, 4, 3)), ("b", box_of(0, 0, 12, 1)), ("c", SQUARE)]
        self.assertEqual(lies_in(rooms)[3], ("c", "ab"))
        self.assertEqual(lies_in(rooms[::-1])[0], ("c", "ab"))
        self.assertEqual([other for _, other in lies_in(rooms)][:3], [None] * 3)
        rooms.append(("a", box_of(0, 0, 7, 7)))
        self.assertEqual(lies_in(rooms)[3], ("c", "ab"))

    def test_nested_things_lie_in_one_another(self):
        things = [("a", [("b", 1), ("c", [("d", 2), ("e", 1)])]), ("f", 4)]
        told = lies_in(nested(WIDE, things, "rows") + [("room", WIDE)])
        self.assertEqual(told, [
            ("a", "room"), ("b", "a"), ("c", "a"), ("d", "c"), ("e", "c"), ("f", "room"), ("room", None)])

    def test_held_against_a_plain_reckoning(self):
        dice = random.Random(31)
        names = [first + second for first in "abcdefg" for second in "zyxwvu"]
        for _ in range(150):
            most = dice.choice((3, 6, 12))
            rooms = []
            for name in dice.sample(names, dice.randint(1, 41)):
                sides = [dice.randint(1, most), dice.randint(1, most)]
                rooms.append((name, box_of(dice.randint(0, 3), dice.randint(0, 3), *sides)))
            kept = list(rooms)
            told = lies_in(rooms)
            self.assertIs(type(told), list)
            self.assertEqual(told, plain_around(rooms))
            self.assertEqual(rooms, kept)

    def test_figures_without_an_end(self):
        inner = box_of((1, BIG ** 9), (1, BIG ** 8), (BIG - 1, BIG), (PRIME, PRIME + 7))
        self.assertEqual(lies_in([("a", inner), ("b", box_of(0, 0, 2, 2))]), [("a", "b"), ("b", None)])

    def test_the_told_list_is_the_askers_own(self):
        rooms = [("a", SQUARE), ("b", box_of(-1, -1, 5, 5))]
        first = lies_in(rooms)
        first.clear()
        self.assertEqual(lies_in(rooms), [("a", "b"), ("b", None)])

    def test_a_box_that_is_none(self):
        for thing in no_boxes():
            for at in range(3):
                rooms = [("b", SQUARE), ("c", WIDE)]
                rooms.insert(at, ("a", thing))
                with self.subTest(thing=thing), self.assertRaises(NoBox):
                    lies_in(rooms)


class ThePromise(unittest.TestCase):
    def test_from_boxes_alone_the_weights_and_a_tree_that_part_just_so(self):
        dice = random.Random(4)
        for _ in range(120):
            many = dice.randint(1, 20)
            room = dice.choice(BOXES)
            weights = [dice.randint(1, dice.choice((2, 9, BIG))) for _ in range(many)]
            boxes = boxes_by(room, weights, some_tree(dice, mixed(dice, range(many))))
            back, tree = weights_back(boxes), tree_back(room, boxes)
            self.assertEqual([weight * math.gcd(*weights) for weight in back], weights)
            self.assertEqual(boxes_by(room, back, tree), boxes)
            self.assertIsNone(fault(room, back, boxes))


if __name__ == "__main__":
    unittest.main()
