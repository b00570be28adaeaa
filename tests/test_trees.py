"""Point 9: trees, and rooms parted by them."""

import random
import unittest

from samples import (
    BIG, BOXES, NO_WAYS, SQUARE, WAYS, WEIGHTS, WIDE, chain, chain_back, check_room_refusals, mixed, nested_deep,
    plain_boxes, plainly, some_tree, standing_in, with_part,
)
from weightrooms.errors import NoBox, NoTree, NoWeights, TooMany
from weightrooms.looker import fault
from weightrooms.rooms import box_of, parted
from weightrooms.trees import boxes_by, is_tree

# None of these is a tree, however many things there are.
NO_TREES = [
    -1, -BIG, BIG, 41, True, False, None, "", "0", "1", "across", "down", b"", b"0", [], [0], [0, 1], {}, {0: 1},
    set(), object(), int, (), (0,), (0, 1), (1, 1), (1, 2), (0, 1, 2), ("across",), ("down", 0), ("across", ()),
    ("across", (0,)), ("down", ((),)), ("across", (True, False)), ("across", (0, True)), ("down", (False, 1)),
    ("across", (0, None)), ("across", ("0", "1")), ("across", "01"), ("across", [0, 1]), ["across", (0, 1)],
    ["across", [0, 1]], ("across", {0: 0, 1: 1}), ("across", {0, 1}), ("across", range(2)), ("across", (0, [1])),
    ("across", (0, 1), ()), ("across", (0, 1), 2), ("across", 0, 1), ((0, 1), "across"), (("across", (0, 1)),),
    (True, (0, 1)), (None, (0, 1)), (0, (0, 1)), (("across",), (0, 1)), (["across"], (0, 1)), (b"across", (0, 1)),
    ("across", (0, 0)), ("across", (1, 0, 1)), ("across", (0, ("down", (1, 0)))), ("across", (0, -1)),
    ("across", (0, ("across", ()))), ("across", (0, ("down", (1,)))), ("across", ((0, 1), (2, 3))),
] + [(way, (0, 1)) for way in NO_WAYS] + [("down", (0, (way, (1, 2)))) for way in NO_WAYS]


def places(tree):
    """The way to each place in a tree: the lists of places, from the top, the top itself too."""
    found = [[]]
    if isinstance(tree, tuple):
        for at, part in enumerate(tree[1]):
            found += [[at] + rest for rest in places(part)]
    return found


def at_place(tree, place):
    """What stands at a place of a tree."""
    for at in place:
        tree = tree[1][at]
    return tree


def with_other(tree, place, thing):
    """The tree with another thing at a place."""
    if not place:
        return thing
    way, trees = tree
    return (way, with_part(trees, place[0], with_other(trees[place[0]], place[1:], thing)))


class IsTree(unittest.TestCase):
    def test_numbers_and_tuples(self):
        self.assertIs(is_tree(0, 1), True)
        for way in WAYS:
            self.assertIs(is_tree((way, (0, 1)), 2), True)
            self.assertIs(is_tree((way, (1, 0)), 2), True)
            self.assertIs(is_tree((way, (2, 0, 1)), 3), True)
            self.assertIs(is_tree((way, (2, (way, (1, 0)))), 3), True)
            self.assertIs(is_tree((way, (("down", (3, 1)), ("across", (0, 2)))), 4), True)
        self.assertIs(is_tree(("across", tuple(range(41))), 41), True)

    def test_trees_of_all_counts(self):
        dice = random.Random(9)
        for many in range(1, 42):
            for most in (2, 3, 40):
                tree = some_tree(dice, mixed(dice, range(many)), most)
                for other in (1, many - 1, many, many + 1, 40, 41):
                    if other >= 1:
                        self.assertIs(is_tree(tree, other), other == many, (tree, other))

    def test_chains_as_deep_as_can_be(self):
        for many in (2, 3, 39, 40, 41):
            for ways in (("across",), ("down",), ("down", "across")):
                for make in (chain, chain_back):
                    tree = make(list(range(many)), ways)
                    self.assertIs(is_tree(tree, many), True)
                    self.assertIs(is_tree(tree, many + 1), False)
                    self.assertIs(is_tree(tree, many - 1), False)
                    inner = make([0] + list(range(many - 1)), ways)
                    self.assertIs(is_tree(inner, many), False)

    def test_what_is_none(self):
        for thing in NO_TREES:
            for many in (1, 2, 3, 4, 40, 41):
                with self.subTest(thing=thing, many=many):
                    self.assertIs(is_tree(thing, many), False)

    def test_one_number(self):
        for many in range(1, 42):
            for thing in (0, 1, many - 1, many, many + 1, -1):
                self.assertIs(is_tree(thing, many), many == 1 and thing == 0)

    def test_another_thing_at_any_place(self):
        dice = random.Random(99)
        for many in (2, 3, 5, 9, 40):
            tree = some_tree(dice, mixed(dice, range(many)), 3)
            for place in places(tree):
                for thing in NO_TREES:
                    with self.subTest(many=many, place=place, thing=thing):
                        self.assertIs(is_tree(with_other(tree, place, thing), many), False)

    def test_a_number_twice_beyond_or_as_a_truth_at_any_place(self):
        for make in (chain, chain_back):
            for many in (2, 7, 40):
                tree = make(list(range(many)))
                for place in places(tree):
                    there = at_place(tree, place)
                    if isinstance(there, tuple):
                        continue
                    for other in [figure for figure in range(-1, many + 2) if figure != there]:
                        self.assertIs(is_tree(with_other(tree, place, other), many), False)
                    if there in (0, 1):
                        self.assertIs(is_tree(with_other(tree, place, bool(there)), many), False)
                    for thing in (str(there), [there], (there,), (there, 1), (there, there), None):
                        self.assertIs(is_tree(with_other(tree, place, thing), many), False)

    def test_branches_bent_at_any_place(self):
        dice = random.Random(999)
        for many in (2, 6, 12):
            tree = some_tree(dice, mixed(dice, range(many)), 3)
            for place in places(tree):
                there = at_place(tree, place)
                if not isinstance(there, tuple):
                    continue
                way, trees = there
                bent = [list(there), (way, list(trees)), (way,), (trees,), (way, trees, ()), (trees, way), (way, way)]
                bent += [(other, trees) for other in NO_WAYS + [None, True, 0, b"down", ["down"]]]
                bent += [(way, trees[:1]), (way, ()), (way, (there,)), (way, trees + trees[:1]), trees, (way, there)]
                for thing in bent:
                    with self.subTest(many=many, place=place, thing=thing):
                        self.assertIs(is_tree(with_other(tree, place, thing), many), False)
                exchanged = ("down" if way == "across" else "across", trees[::-1])
                self.assertIs(is_tree(with_other(tree, place, exchanged), many), True)

    def test_things_that_lie_deep(self):
        wraps = [
            lambda inner: [inner], lambda inner: (inner,), lambda inner: (inner, [inner]), lambda inner: [inner] * 3,
            lambda inner: ("across", inner), lambda inner: ("across", [inner, inner]), lambda inner: (inner, inner),
        ]
        for wrap in wraps:
            for many in (1, 2, 40):
                self.assertIs(is_tree(nested_deep(82, wrap), many), False)

    def test_a_tuple_that_stands_at_very_many_places(self):
        for leaf in (0, (), None, True):
            tree = leaf
            for step in range(41):
                tree = (WAYS[step % 2], (tree, tree))
            for many in (1, 2, 40, 41):
                self.assertIs(is_tree(tree, many), False)

    def test_the_same_is_told_again(self):
        tree = chain(list(range(40)))
        self.assertEqual([is_tree(tree, 40) for _ in range(3)], [True] * 3)


class BoxesBy(unittest.TestCase):
    def test_one_thing_has_the_room(self):
        for room in BOXES:
            for weight in (1, BIG):
                self.assertEqual(boxes_by(room, [weight], 0), [room])

    def test_two_things(self):
        room = box_of(1, 2, 12, 6)
        self.assertEqual(boxes_by(room, [1, 2], ("across", (0, 1))), [box_of(1, 2, 4, 6), box_of(5, 2, 8, 6)])
        self.assertEqual(boxes_by(room, [1, 2], ("across", (1, 0))), [box_of(9, 2, 4, 6), box_of(1, 2, 8, 6)])
        self.assertEqual(boxes_by(room, [1, 2], ("down", (0, 1))), [box_of(1, 2, 12, 2), box_of(1, 4, 12, 4)])
        self.assertEqual(boxes_by(room, [1, 2], ("down", (1, 0))), [box_of(1, 6, 12, 2), box_of(1, 2, 12, 4)])

    def test_trees_within_trees(self):
        room = box_of(0, 0, 10, 6)
        tree = ("across", (3, ("down", (("across", (0, 4)), 1)), 2))
        told = boxes_by(room, [2, 3, 3, 1, 1], tree)
        self.assertEqual(told, [
            box_of(1, 0, 4, 3), box_of(1, 3, 6, 3), box_of(7, 0, 3, 6), box_of(0, 0, 1, 6), box_of(5, 0, 2, 3),
        ])

    def test_more_trees_at_a_place_than_two(self):
        for room in BOXES:
            for way in WAYS:
                for weights in WEIGHTS:
                    if len(weights) > 1:
                        tree = (way, tuple(range(len(weights))))
                        self.assertEqual(boxes_by(room, weights, tree), parted(room, way, weights))

    def test_held_against_a_plain_reckoning(self):
        dice = random.Random(19)
        for room in BOXES:
            for weights in WEIGHTS:
                numbers = mixed(dice, range(len(weights)))
                trees = [some_tree(dice, numbers, most) for most in (2, 3, 12)] + [chain(numbers), chain_back(numbers)]
                for tree in trees:
                    told = boxes_by(room, weights, tree)
                    self.assertIs(type(told), list)
                    expected = plain_boxes(plainly(room), weights, tree)
                    self.assertEqual(told, [expected[at] for at in range(len(weights))])
                    self.assertIsNone(fault(room, weights, told))

    def test_chains_of_forty(self):
        for make in (chain, chain_back):
            for ways in (("across",), ("down",), ("across", "down")):
                numbers = list(range(40))[::-1]
                weights = [BIG - 7 * at for at in range(40)]
                tree = make(numbers, ways)
                told = boxes_by(WIDE, weights, tree)
                self.assertIsNone(fault(WIDE, weights, told))
                expected = plain_boxes(plainly(WIDE), weights, tree)
                self.assertEqual(told, [expected[at] for at in range(40)])

    def test_by_the_numbers_whatever_the_order_in_the_tree(self):
        dice = random.Random(29)
        weights = [4, 1, 3, 2, 6, 5]
        for _ in range(40):
            numbers = mixed(dice, range(6))
            tree = some_tree(dice, numbers)
            self.assertEqual(standing_in(tree), numbers)
            told = boxes_by(WIDE, weights, tree)
            # The same tree of things that are numbered as they stand in it.
            renumbered = boxes_by(WIDE, [weights[at] for at in numbers], self.renumbered(tree, numbers))
            self.assertEqual([told[at] for at in numbers], renumbered)

    def renumbered(self, tree, numbers):
        if not isinstance(tree, tuple):
            return numbers.index(tree)
        return (tree[0], tuple(self.renumbered(part, numbers) for part in tree[1]))

    def test_told_boxes_and_great_numbers_are_handed_in_again(self):
        room, weights = WIDE, [BIG ** 100, 1, BIG ** 99]
        for tree in (chain([0, 1, 2]), chain([2, 0, 1], ("down",))) * 3:
            told = boxes_by(room, weights, tree)
            self.assertIsNone(fault(room, weights, told))
            room = told[1]


class WhoseLists(unittest.TestCase):
    def test_the_weights_stay_and_the_told_list_is_the_askers_own(self):
        for weights, tree in (([5], 0), ([3, 1, 2], ("across", (2, ("down", (0, 1)))))):
            kept = list(weights)
            first = boxes_by(WIDE, weights, tree)
            again = list(first)
            self.assertEqual(weights, kept)
            first.clear()
            second = boxes_by(WIDE, weights, tree)
            self.assertEqual(second, again)
            weights.append(9)
            self.assertEqual(second, again)


class Refused(unittest.TestCase):
    def test_what_is_no_tree(self):
        for many in (1, 2, 3, 40):
            for thing in NO_TREES:
                with self.subTest(many=many, thing=thing), self.assertRaises(NoTree):
                    boxes_by(WIDE, [2] * many, thing)

    def test_trees_for_another_count(self):
        for many in range(1, 8):
            for other in range(1, 8):
                if many != other:
                    with self.assertRaises(NoTree):
                        boxes_by(SQUARE, [1] * many, chain(list(range(other))))
        with self.assertRaises(NoTree):
            boxes_by(SQUARE, [1] * 40, chain(list(range(41))))

    def test_what_lies_deep(self):
        for wrap in (lambda inner: [inner], lambda inner: ("down", (0, inner)), lambda inner: (inner, inner)):
            with self.assertRaises(NoTree):
                boxes_by(SQUARE, [1, 2], nested_deep(41, wrap))

    def test_of_rooms_and_weights_in_their_order(self):
        for tree in (("across", (0, 1)), 0, None, [], chain(list(range(41)))):
            check_room_refusals(self, lambda room, weights: boxes_by(room, weights, tree))

    def test_the_order_of_refusals(self):
        for tree in NO_TREES[:20]:
            with self.assertRaises(NoBox):
                boxes_by(None, [1, 2], tree)
            with self.assertRaises(NoWeights):
                boxes_by(SQUARE, [0], tree)
            with self.assertRaises(TooMany):
                boxes_by(SQUARE, [1] * 41, tree)


if __name__ == "__main__":
    unittest.main()
