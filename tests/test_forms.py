"""Point 10: plain forms, relations, trees turned over."""

import itertools
import random
import unittest

from samples import (
    BIG, BOXES, WAYS, chain, chain_back, mixed, plain_relation, renamed, some_tree, standing_in,
)
from weightrooms.errors import Unknown
from weightrooms.rooms import turned
from weightrooms.trees import boxes_by, is_tree, plain_form, relation, turned_tree

NAMES = ["across", "down", "a", "left", "", "0", "1", "across(", "b b", "~", "above", "zz"]


def some_trees(seed, most_things=14):
    """Trees of one to so many numbers, in any order."""
    dice = random.Random(seed)
    for many in range(1, most_things + 1):
        for most in (2, 3, 6):
            yield some_tree(dice, mixed(dice, range(many)), most)
    for make in (chain, chain_back):
        for ways in (("across",), ("down",), ("across", "down"), ("down", "down", "across")):
            yield make(mixed(dice, range(40)), ways)


def ways_within(tree):
    """For each tree that stands right within another one, both ways."""
    if not isinstance(tree, tuple):
        return []
    found = []
    for part in tree[1]:
        if isinstance(part, tuple):
            found.append((tree[0], part[0]))
        found += ways_within(part)
    return found


class PlainForm(unittest.TestCase):
    def test_written_out(self):
        rows = [
            (0, 0),
            (("across", (0, 1)), ("across", (0, 1))),
            (("across", (0, ("across", (1, 2)))), ("across", (0, 1, 2))),
            (("across", (("across", (1, 2)), 0)), ("across", (1, 2, 0))),
            (("across", (3, ("across", (1, 2)), 0)), ("across", (3, 1, 2, 0))),
            (("down", (("down", (1, 2)), ("down", (0, 3)))), ("down", (1, 2, 0, 3))),
            (("down", (0, ("across", (1, 2)))), ("down", (0, ("across", (1, 2))))),
            (("down", (0, ("down", (1, ("down", (2, ("down", (3, 4)))))))), ("down", (0, 1, 2, 3, 4))),
            (("across", (0, ("down", (1, ("across", (2, 3)))))), ("across", (0, ("down", (1, ("across", (2, 3))))))),
            (("across", (0, ("down", (("down", (1, 4)), ("across", (2, 3)))))),
             ("across", (0, ("down", (1, 4, ("across", (2, 3))))))),
            (("down", (("across", (0, ("across", (1, 2)))), ("down", (3, ("across", (4, ("across", (5, 6)))))))),
             ("down", (("across", (0, 1, 2)), 3, ("across", (4, 5, 6))))),
        ]
        for tree, plain in rows:
            self.assertEqual(plain_form(tree), plain)

    def test_no_tree_stands_right_within_one_of_its_way(self):
        for tree in some_trees(10):
            plain = plain_form(tree)
            self.assertEqual(standing_in(plain), standing_in(tree))
            self.assertIs(is_tree(plain, len(standing_in(tree))), True)
            self.assertTrue(all(way != inner for way, inner in ways_within(plain)))

    def test_what_is_plain_stays(self):
        for tree in some_trees(20):
            if all(way != inner for way, inner in ways_within(tree)):
                self.assertEqual(plain_form(tree), tree)
            self.assertEqual(plain_form(plain_form(tree)), plain_form(tree))

    def test_it_parts_each_room_alike(self):
        dice = random.Random(30)
        for tree in some_trees(30):
            weights = [dice.choice((1, 3, 8, BIG)) for _ in standing_in(tree)]
            for room in BOXES:
                self.assertEqual(boxes_by(room, weights, plain_form(tree)), boxes_by(room, weights, tree))

    def test_of_texts(self):
        self.assertEqual(plain_form("across"), "across")
        tree = ("across", ("across", ("across", ("down", "a")), ("down", ("across", "", ("down", ("b", "c"))))))
        self.assertEqual(plain_form(tree), ("across", ("across", "down", "a", ("down", ("across", "", "b", "c")))))
        for tree in some_trees(40, len(NAMES)):
            if len(standing_in(tree)) <= len(NAMES):
                self.assertEqual(plain_form(renamed(tree, NAMES)), renamed(plain_form(tree), NAMES))

    def test_of_great_numbers(self):
        names = [BIG ** at + at for at in range(40)]
        for tree in some_trees(50):
            self.assertEqual(plain_form(renamed(tree, names)), renamed(plain_form(tree), names))


class Relation(unittest.TestCase):
    def test_written_out(self):
        tree = ("across", (3, ("down", (("across", (0, 4)), 1)), 2))
        rows = [
            (3, 0, "left"), (0, 3, "right"), (3, 2, "left"), (2, 3, "right"), (0, 4, "left"), (4, 0, "right"),
            (0, 1, "above"), (1, 0, "below"), (4, 1, "above"), (1, 4, "below"), (1, 2, "left"), (2, 4, "right"),
        ]
        for one, other, expected in rows:
            self.assertEqual(relation(tree, one, other), expected)

    def test_two_things(self):
        self.assertEqual(relation(("across", (0, 1)), 0, 1), "left")
        self.assertEqual(relation(("across", (0, 1)), 1, 0), "right")
        self.assertEqual(relation(("across", (1, 0)), 0, 1), "right")
        self.assertEqual(relation(("down", (0, 1)), 0, 1), "above")
        self.assertEqual(relation(("down", (0, 1)), 1, 0), "below")
        self.assertEqual(relation(("down", (1, 0)), 0, 1), "below")

    def test_at_the_least_tree_that_has_both(self):
        for tree in some_trees(60, 9):
            for one, other in itertools.permutations(standing_in(tree), 2):
                self.assertEqual(relation(tree, one, other), plain_relation(tree, one, other))
                self.assertEqual(relation(plain_form(tree), one, other), plain_relation(tree, one, other))

    def test_of_texts(self):
        for tree in some_trees(70, len(NAMES)):
            if len(standing_in(tree)) <= len(NAMES):
                named = renamed(tree, NAMES)
                for one, other in itertools.permutations(standing_in(tree), 2):
                    self.assertEqual(relation(named, NAMES[one], NAMES[other]), plain_relation(tree, one, other))

    def test_of_great_numbers(self):
        tree = ("down", (BIG, ("across", (BIG ** 9, 7))))
        self.assertEqual(relation(tree, BIG, BIG ** 9), "above")
        self.assertEqual(relation(tree, 7, BIG), "below")
        self.assertEqual(relation(tree, 7, BIG ** 9), "right")

    def test_things_that_do_not_both_stand_there(self):
        trees = [0, "a", ("across", (0, 1)), ("down", ("a", "across", "down")), chain(list(range(40)))]
        for tree in trees:
            things = standing_in(tree) + [-1, 40, BIG, "b", "", "above", "dow", "acros", "0"]
            for one, other in itertools.product(things, things):
                both = one in standing_in(tree) and other in standing_in(tree) and one != other
                if not both:
                    with self.assertRaises(Unknown):
                        relation(tree, one, other)

    def test_a_way_that_does_not_stand_there_as_a_text(self):
        for way in WAYS:
            tree = (way, ("a", "b"))
            for one, other in (("a", "across"), ("down", "b"), ("across", "down"), ("a", way), (way, way)):
                with self.assertRaises(Unknown):
                    relation(tree, one, other)

    def test_alike_things(self):
        tree = ("across", (0, ("down", (1, 2))))
        for thing in (0, 1, 2, 3):
            with self.assertRaises(Unknown):
                relation(tree, thing, thing)

    def test_a_truth_stands_in_no_tree(self):
        tree = ("across", (0, ("down", (1, 2))))
        for one, other in ((True, 0), (True, 2), (False, 1), (2, False), (0, True), (False, True)):
            with self.assertRaises(Unknown):
                relation(tree, one, other)


class TurnedTree(unittest.TestCase):
    def test_written_out(self):
        self.assertEqual(turned_tree(0), 0)
        self.assertEqual(turned_tree(("across", (0, 1))), ("down", (0, 1)))
        self.assertEqual(turned_tree(("down", (1, 0, 2))), ("across", (1, 0, 2)))
        tree = ("across", (3, ("down", (("across", (0, 4)), 1)), ("across", (2, 5))))
        self.assertEqual(turned_tree(tree), ("down", (3, ("across", (("down", (0, 4)), 1)), ("down", (2, 5)))))

    def test_twice_it_is_the_tree_again(self):
        for tree in some_trees(80):
            self.assertEqual(turned_tree(turned_tree(tree)), tree)
            if isinstance(tree, tuple):
                self.assertNotEqual(turned_tree(tree), tree)

    def test_it_parts_the_room_turned_over(self):
        dice = random.Random(90)
        for tree in some_trees(90):
            weights = [dice.choice((1, 2, 9, BIG)) for _ in standing_in(tree)]
            for room in BOXES:
                expected = [turned(box) for box in boxes_by(room, weights, tree)]
                self.assertEqual(boxes_by(turned(room), weights, turned_tree(tree)), expected)

    def test_of_texts_and_great_numbers(self):
        self.assertEqual(turned_tree("across"), "across")
        tree = ("across", ("across", "down", ("down", ("a", BIG ** 5))))
        self.assertEqual(turned_tree(tree), ("down", ("across", "down", ("across", ("a", BIG ** 5)))))

    def test_relations_are_turned_over(self):
        over = {"left": "above", "right": "below", "above": "left", "below": "right"}
        for tree in some_trees(100, 7):
            for one, other in itertools.permutations(standing_in(tree), 2):
                self.assertEqual(relation(turned_tree(tree), one, other), over[relation(tree, one, other)])


if __name__ == "__main__":
    unittest.main()
