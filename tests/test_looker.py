"""Point 8: boxes looked at with a room and weights."""

import itertools
import random
import unittest

from samples import (
    BIG, BOXES, HIGH, PRIME, SQUARE, VAST, WEIGHTS, WIDE, WOUND, chain, chain_back, check_room_refusals,
    drawn_likewise, mixed, nested_deep, no_boxes, number, pair, plain_boxes, plainly, some_tree, with_part,
)
from weightrooms.errors import NoBox, NoWeights, TooMany
from weightrooms.fracs import fraction
from weightrooms.looker import fault
from weightrooms.rooms import box_of, parted, turned
from weightrooms.trees import boxes_by

WOUND_WEIGHTS = [2, 2, 2, 2, 1]
SIX = box_of(0, 0, 3, 2)


def whole(*parts):
    """A box of four whole numbers."""
    return box_of(*parts)


def drawn_by(room, weights, tree):
    """The boxes by a tree, by the plain reckoning, in the order of the numbers."""
    boxes = plain_boxes(plainly(room), weights, tree)
    return [boxes[at] for at in range(len(weights))]


def cells(box):
    """The cells of a grid that a box of whole numbers covers."""
    left, top, wide, high = box
    return {(x, y) for x in range(left, left + wide) for y in range(top, top + high)}


def fault_by_cells(room, weights, boxes):
    """The first fault of boxes of whole numbers, by the cells that they cover."""
    inside = cells(room)
    covered = [cells(box) for box in boxes]
    for at, weight in enumerate(weights):
        if len(covered[at]) * sum(weights) != len(inside) * weight:
            return ("area", at)
    for at in range(len(boxes)):
        if covered[at] - inside:
            return ("out", at)
    for at in range(len(boxes)):
        for ahead in range(at):
            if covered[at] & covered[ahead]:
                return ("over", ahead, at)
    return None


class LetBy(unittest.TestCase):
    def test_rooms_parted_by_trees(self):
        dice = random.Random(8)
        for room in BOXES:
            for weights in WEIGHTS:
                numbers = mixed(dice, range(len(weights)))
                for tree in (some_tree(dice, numbers), chain(numbers), chain_back(numbers, ("down",))):
                    self.assertIsNone(fault(room, weights, drawn_by(room, weights, tree)))

    def test_forty_things(self):
        weights = list(range(1, 41))
        boxes = boxes_by(WIDE, weights, chain(list(range(40))))
        self.assertEqual(len(boxes), 40)
        self.assertIsNone(fault(WIDE, weights, boxes))

    def test_one_box_is_the_room(self):
        for room in BOXES:
            self.assertIsNone(fault(room, [BIG], [room]))

    def test_boxes_wound_about_one(self):
        for room in BOXES + [whole(0, 0, 3, 3)]:
            boxes = [drawn_likewise(box, room) for box in WOUND]
            self.assertIsNone(fault(room, WOUND_WEIGHTS, boxes))
            self.assertIsNone(fault(room, [weight * BIG for weight in WOUND_WEIGHTS], boxes))
            self.assertIsNone(fault(turned(room), WOUND_WEIGHTS, [turned(box) for box in boxes]))
            self.assertEqual(fault(room, [2, 2, 2, 1, 2], boxes), ("area", 3))

    def test_any_order_of_boxes_with_their_weights(self):
        drawn = [whole(*box) for box in WOUND]
        for order in itertools.permutations(range(5)):
            boxes, weights = [drawn[at] for at in order], [WOUND_WEIGHTS[at] for at in order]
            self.assertIsNone(fault(whole(0, 0, 3, 3), weights, boxes))

    def test_walls_in_common_are_no_fault(self):
        four = [whole(0, 0, 1, 1), whole(1, 0, 1, 1), whole(0, 1, 1, 1), whole(1, 1, 1, 1)]
        for boxes in itertools.permutations(four):
            self.assertIsNone(fault(whole(0, 0, 2, 2), [3, 3, 3, 3], list(boxes)))

    def test_numbers_of_many_figures(self):
        much = PRIME ** 200
        for room in (box_of(0, 0, much, (much - 1, much)), VAST, box_of((1, much), (-much, 7), (3, much), much)):
            boxes = parted(room, "down", [much, 1, much - 1])
            self.assertIsNone(fault(room, [much, 1, much - 1], boxes))
            boxes[1], boxes[2] = boxes[2], boxes[1]
            self.assertEqual(fault(room, [much, 1, much - 1], boxes), ("area", 1))

    def test_sixty_figures(self):
        room = box_of(0, 0, BIG, PRIME)
        half = BIG * BIG + 2
        boxes = [box_of(0, 0, (BIG, 2), PRIME), box_of((BIG, 2), 0, (BIG, 2), PRIME)]
        self.assertIsNone(fault(room, [half, half], boxes))
        self.assertEqual(fault(room, [half, half + 1], boxes), ("area", 0))
        less, more = fraction(BIG * half - 1, 2 * half), fraction(BIG * half + 1, 2 * half)
        narrow = box_of(0, 0, less, fraction(PRIME * half * BIG, half * BIG - 1))
        self.assertEqual(fault(room, [1, 1], [narrow, boxes[1]]), ("out", 0))
        close = box_of(less, 0, (BIG, 2), PRIME)
        self.assertEqual(fault(room, [1, 1], [boxes[0], close]), ("over", 0, 1))
        apart = box_of(more, 0, (BIG, 2), PRIME)
        self.assertEqual(fault(room, [1, 1], [boxes[0], apart]), ("out", 1))


class Count(unittest.TestCase):
    def test_more_or_fewer(self):
        boxes = parted(SIX, "across", [1] * 5)
        for many in range(0, 12):
            if many != 5:
                told = (boxes * 3)[:many]
                self.assertEqual(fault(SIX, [1] * 5, told), ("count",))
        self.assertEqual(fault(SIX, [1], []), ("count",))
        self.assertEqual(fault(SIX, [1] * 40, [SIX] * 41), ("count",))
        self.assertEqual(fault(SIX, [1] * 40, [SIX] * 39), ("count",))

    def test_ahead_of_all_else_in_the_list(self):
        for thing in (None, True, "box", [], nested_deep(80, lambda inner: [inner]), whole(9, 9, 9, 9)):
            self.assertEqual(fault(SIX, [1, 1], [thing]), ("count",))
            self.assertEqual(fault(SIX, [1, 1], [thing] * 3), ("count",))
            self.assertEqual(fault(SIX, [1, 1, 1], [thing] * 2), ("count",))


class NoBoxThere(unittest.TestCase):
    def test_things_of_all_kinds_at_each_place(self):
        boxes = parted(WIDE, "down", [1, 2, 3])
        for at in range(3):
            for thing in no_boxes():
                with self.subTest(at=at, thing=thing):
                    self.assertEqual(fault(WIDE, [1, 2, 3], list(with_part(boxes, at, thing))), ("box", at))

    def test_the_first_of_several(self):
        boxes = [SQUARE, None, True, [], whole(0, 0, 1, 1)]
        for order in itertools.permutations(boxes):
            first = min(at for at, thing in enumerate(order) if not isinstance(thing, tuple))
            self.assertEqual(fault(SQUARE, [1] * 5, list(order)), ("box", first))

    def test_ahead_of_area_out_and_over(self):
        self.assertEqual(fault(SIX, [1, 1], [whole(7, 7, 1, 1), None]), ("box", 1))
        self.assertEqual(fault(SIX, [1, 1, 1], [SIX, SIX, "box"]), ("box", 2))
        self.assertEqual(fault(SIX, [1, 1, 1], [SIX, with_part(SIX, 2, (0, 1)), with_part(SIX, 3, (0, 1))]), ("box", 1))

    def test_things_that_lie_deep(self):
        for wrap in (lambda inner: [inner], lambda inner: (inner,), lambda inner: (inner, [inner]),
                     lambda inner: (inner,) * 4):
            deep = nested_deep(81, wrap)
            self.assertEqual(fault(SIX, [1, 1], [SIX, deep]), ("box", 1))
            self.assertEqual(fault(SIX, [1, 1], [(deep[0],) * 4, deep]), ("box", 0))


class Area(unittest.TestCase):
    def test_the_first_of_several(self):
        halves = parted(SIX, "across", [1, 1])
        self.assertEqual(fault(SIX, [1, 2], halves), ("area", 0))
        self.assertEqual(fault(SIX, [1, 1], [halves[0], whole(0, 0, 1, 1)]), ("area", 1))
        self.assertEqual(fault(SIX, [1, 1], [SIX, SIX]), ("area", 0))
        self.assertEqual(fault(SIX, [5], [whole(0, 0, 2, 2)]), ("area", 0))

    def test_ahead_of_out_and_over(self):
        self.assertEqual(fault(SIX, [1, 1], [whole(9, 9, 3, 1), whole(0, 0, 1, 1)]), ("area", 1))
        self.assertEqual(fault(SIX, [1, 1, 1], [whole(0, 0, 1, 2)] * 2 + [whole(1, 0, 2, 2)]), ("area", 2))

    def test_a_hair_more_or_less(self):
        for step in (1, -1):
            boxes = parted(HIGH, "down", [1, 1, 1])
            boxes[1] = with_part(boxes[1], 3, (3 * BIG + step, BIG))
            self.assertEqual(fault(HIGH, [1, 1, 1], boxes), ("area", 1))


class Out(unittest.TestCase):
    def test_beyond_each_wall(self):
        for left, top in ((-1, 0), (1, 0), (0, -1), (0, 1), (50, 0), (0, 50), (-50, -50)):
            self.assertEqual(fault(SIX, [1], [whole(left, top, 3, 2)]), ("out", 0))
        for room in BOXES:
            for at in (0, 1):
                for step in (1, -1):
                    moved = with_part(room, at, pair(number(room[at]) + number((step, BIG))))
                    self.assertEqual(fault(room, [4], [moved]), ("out", 0))

    def test_longer_than_the_room(self):
        self.assertEqual(fault(SIX, [1], [whole(0, 0, 6, 1)]), ("out", 0))
        self.assertEqual(fault(SIX, [1], [whole(0, 0, 2, 3)]), ("out", 0))
        self.assertEqual(fault(SIX, [1], [whole(-1, -1, 2, 3)]), ("out", 0))

    def test_ahead_of_over_and_the_first_of_several(self):
        one = whole(0, 0, 1, 2)
        self.assertEqual(fault(SIX, [1, 1, 1], [one, one, whole(3, 0, 1, 2)]), ("out", 2))
        self.assertEqual(fault(SIX, [1, 1, 1], [one, whole(2, 1, 1, 2), whole(3, 0, 1, 2)]), ("out", 1))


class Over(unittest.TestCase):
    def test_the_first_with_the_least(self):
        one, two, three = whole(0, 0, 1, 2), whole(1, 0, 1, 2), whole(2, 0, 1, 2)
        flat = whole(0, 0, 2, 1)
        self.assertIsNone(fault(SIX, [1, 1, 1], [one, two, three]))
        self.assertEqual(fault(SIX, [1, 1, 1], [one, one, three]), ("over", 0, 1))
        self.assertEqual(fault(SIX, [1, 1, 1], [one, three, one]), ("over", 0, 2))
        self.assertEqual(fault(SIX, [1, 1, 1], [three, one, one]), ("over", 1, 2))
        self.assertEqual(fault(SIX, [1, 1, 1], [one, two, flat]), ("over", 0, 2))
        self.assertEqual(fault(SIX, [1, 1, 1], [two, one, flat]), ("over", 0, 2))
        self.assertEqual(fault(SIX, [1, 1, 1], [three, two, flat]), ("over", 1, 2))
        self.assertEqual(fault(SIX, [1, 1, 1], [one, flat, one]), ("over", 0, 1))
        self.assertEqual(fault(SIX, [1] * 3, [one] * 3), ("over", 0, 1))

    def test_one_within_the_other_and_crossed(self):
        room = whole(0, 0, 5, 5)
        wide, high, rest = whole(0, 2, 5, 1), whole(2, 0, 1, 5), whole(0, 0, 3, 5)
        self.assertEqual(fault(room, [1, 1, 3], [wide, high, rest]), ("over", 0, 1))
        self.assertEqual(fault(room, [3, 1, 1], [rest, high, wide]), ("over", 0, 1))
        self.assertEqual(fault(room, [1, 3, 1], [high, rest, wide]), ("over", 0, 1))
        self.assertEqual(fault(room, [1, 3, 1], [whole(0, 0, 1, 5), whole(1, 0, 3, 5), high]), ("over", 1, 2))

    def test_by_a_hair(self):
        halves = parted(SQUARE, "across", [1, 1])
        halves[1] = (pair(number((1, 2)) - number((1, BIG))),) + halves[1][1:]
        self.assertEqual(fault(SQUARE, [1, 1], halves), ("over", 0, 1))

    def test_the_last_of_forty(self):
        weights = [1] * 40
        boxes = parted(WIDE, "across", weights)
        for ahead in (0, 17, 38):
            self.assertEqual(fault(WIDE, weights, boxes[:39] + [boxes[ahead]]), ("over", ahead, 39))


class HeldAgainstCells(unittest.TestCase):
    def check(self, room, weights, boxes):
        told = fault(whole(*room), weights, [whole(*box) for box in boxes])
        self.assertEqual(told, fault_by_cells(room, weights, boxes), boxes)
        return told

    def test_all_pairs_of_small_boxes(self):
        some = [(x, y, w, h) for x in range(-1, 3) for y in range(-1, 3) for w in (1, 2) for h in (1, 2)]
        told = [self.check((0, 0, 2, 2), [2, 2], boxes) for boxes in itertools.product(some, some)]
        # Side by side, and one beneath another, in both orders.
        self.assertEqual(told.count(None), 4)

    def test_all_triples_of_cells(self):
        some = [(x, y, 1, 1) for x in range(-1, 4) for y in (0, 1)]
        told = [self.check((0, 0, 3, 1), [5, 5, 5], boxes) for boxes in itertools.product(some, repeat=3)]
        self.assertEqual(told.count(None), 6)

    def test_partings_changed_a_little(self):
        dice = random.Random(88)
        rooms = [((0, 0, 3, 3), WOUND), ((0, 0, 4, 2), [(0, 0, 2, 1), (0, 1, 2, 1), (2, 0, 1, 2), (3, 0, 1, 2)])]
        kinds = []
        for _ in range(1500):
            room, boxes = dice.choice(rooms)
            weights = [box[2] * box[3] for box in boxes]
            boxes = list(boxes)
            for _ in range(dice.randint(0, 3)):
                at = dice.randrange(len(boxes))
                left, top, wide, high = boxes[at]
                boxes[at] = dice.choice([
                    (left + dice.randint(-1, 1), top, wide, high), (left, top + dice.randint(-1, 1), wide, high),
                    (left, top, high, wide), boxes[dice.randrange(len(boxes))],
                ])
            told = self.check(room, weights, boxes)
            kinds.append("none" if told is None else told[0])
        for kind in ("none", "area", "out", "over"):
            self.assertGreater(kinds.count(kind), 50, kind)


class Refused(unittest.TestCase):
    def test_in_their_order_whatever_the_boxes_are(self):
        lists = [[], [None], [SQUARE], [WIDE, WIDE], [SQUARE] * 41, [[[]], "box", True]]
        lists.append(nested_deep(82, lambda inner: [inner]))
        for boxes in lists:
            for weights in ([1], [], None, [True], [0], [1] * 41, [1] * 40 + ["1"]):
                with self.assertRaises(NoBox):
                    fault((1, 2), weights, boxes)
            for weights in ([], None, [True], [1, 0], (1,), [1] * 40 + [None]):
                with self.assertRaises(NoWeights):
                    fault(WIDE, weights, boxes)
            with self.assertRaises(TooMany):
                fault(WIDE, [1] * 41, boxes)

    def test_of_all_kinds(self):
        check_room_refusals(self, lambda room, weights: fault(room, weights, [SQUARE]))


class WhoseLists(unittest.TestCase):
    def test_what_is_handed_in_stays(self):
        rows = [
            ([1, 1, 1], parted(SIX, "across", [1, 1, 1])), ([1, 1], [SIX, None]), ([1], []), ([2, 1], [SIX, SIX]),
            ([1, 1, 1], [whole(0, 0, 1, 2)] * 3), ([1], [whole(1, 0, 3, 2)]),
        ]
        for weights, boxes in rows:
            kept = (list(weights), list(boxes))
            told = fault(SIX, weights, boxes)
            self.assertEqual((weights, boxes), kept)
            self.assertEqual(fault(SIX, weights, boxes), told)
            self.assertIn(type(told), (tuple, type(None)))


if __name__ == "__main__":
    unittest.main()
