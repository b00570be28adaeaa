"""Point 28: things within things."""

import copy
import random
import unittest
from fractions import Fraction

from samples import (
    BIG, BOXES, FORTY, HIGH, NO_NAMES, NO_RULES, NO_WEIGHT, SQUARE, WIDE, no_boxes, number, plain_boxes, plainly,
)
from weightrooms.errors import NoBox, NoRule, NoThing, TooMany
from weightrooms.looker import fault
from weightrooms.nests import nested
from weightrooms.rooms import area, box_of
from weightrooms.rules import RULES, by_rule, rule_tree

NO_THINGS = [
    [], (), None, True, False, 0, 1, BIG, "", "a", "ab", b"ab", {}, {"a": 1}, set(), object(), list, SQUARE,
    ("a", 1), (("a", 1),), (("a", 1), ("b", 2)), [[("a", 1)]], [["a", 1]], [["a", [("b", 1)]]], ["a"], ["ab"], [1],
    [None], [()], [("a",)], [("a", 1, 1)], [("a", 1, [])], [("a", [("b", 1)], 2)], [(1, "a")], [{"a": 1}],
    [(("a", 1),)], [("a", ())], [("a", (("b", 1),))], [("a", ("b", 1))], [("a", {})], [("a", {"b": 1})], [("a", "b")],
]


def weight(thing):
    """The weight of a thing."""
    return thing[1] if not isinstance(thing[1], list) else sum(weight(inner) for inner in thing[1])


def plain_nested(room, things, rule):
    """The told list, reckoned plainly by the trees that the rule tells."""
    weights = [weight(thing) for thing in things]
    boxes = plain_boxes(plainly(room), weights, rule_tree(rule, room, weights))
    told = []
    for at, (name, held) in enumerate(things):
        told.append((name, boxes[at]))
        if isinstance(held, list):
            told += plain_nested(boxes[at], held, rule)
    return told


def some_things(dice, names, deep, most_weight):
    """Things of these names, at most so deep, as the die falls."""
    things = []
    while names:
        name = names.pop()
        if deep > 1 and names and dice.random() < 0.5:
            inner = [names.pop() for _ in range(dice.randint(1, min(6, len(names))))]
            things.append((name, some_things(dice, inner, deep - 1, most_weight)))
        else:
            things.append((name, dice.randint(1, most_weight)))
    return things


def chain_of(names):
    """One thing in another, each alone, the last of the weight 1."""
    held = 1
    for name in reversed(names):
        held = [(name, held)]
    return held


def all_lists(things):
    """Each list in things, the list itself too."""
    found = [things]
    for thing in things:
        if isinstance(thing[1], list):
            found += all_lists(thing[1])
    return found


def names_in(things):
    """All names in things, each ahead of those in it, in order."""
    return [name for one, held in things for name in [one] + (names_in(held) if isinstance(held, list) else [])]


class Nested(unittest.TestCase):
    def test_one_thing(self):
        for room in BOXES:
            for rule in RULES:
                self.assertEqual(nested(room, [("a", 5)], rule), [("a", room)])

    def test_one_in_one_in_one(self):
        for many in range(1, 9):
            for rule in RULES:
                names = FORTY[:many]
                self.assertEqual(nested(WIDE, chain_of(names), rule), [(name, WIDE) for name in names])

    def test_written_out(self):
        things = [("a", [("b", 1), ("c", [("d", 2), ("e", 1)])]), ("f", 4)]
        self.assertEqual(nested(box_of(0, 0, 8, 4), things, "across"), [
            ("a", box_of(0, 0, 4, 4)), ("b", box_of(0, 0, 1, 4)), ("c", box_of(1, 0, 3, 4)),
            ("d", box_of(1, 0, 2, 4)), ("e", box_of(3, 0, 1, 4)), ("f", box_of(4, 0, 4, 4)),
        ])
        self.assertEqual(nested(box_of(0, 0, 8, 4), things, "halves"), [
            ("a", box_of(0, 0, 4, 4)), ("b", box_of(0, 0, 1, 4)), ("c", box_of(1, 0, 3, 4)),
            ("d", box_of(1, 0, 3, (8, 3))), ("e", box_of(1, (8, 3), 3, (4, 3))), ("f", box_of(4, 0, 4, 4)),
        ])

    def test_a_list_of_one_deep_is_parted_as_by_the_rule(self):
        for rule in RULES:
            for weights in ([1, 2], [5, 1, 9, 2], [BIG, 1, BIG - 1], [3] * 40):
                told = nested(HIGH, list(zip(FORTY, weights)), rule)
                self.assertEqual(told, list(zip(FORTY, by_rule(rule, HIGH, weights))))

    def test_held_against_a_plain_reckoning(self):
        dice = random.Random(28)
        for turn in range(60):
            names = dice.sample(FORTY, dice.randint(1, 40))
            things = some_things(dice, list(names), dice.randint(1, 8), dice.choice((3, 50, BIG)))
            room, rule = dice.choice(BOXES), RULES[turn % 6]
            kept = copy.deepcopy(things)
            told = nested(room, things, rule)
            self.assertIs(type(told), list)
            self.assertEqual(things, kept)
            self.assertEqual(told, plain_nested(room, things, rule))
            self.assertEqual([name for name, _ in told], names_in(things))
            self.assertEqual(sorted(names), sorted(names_in(things)))
            self.hold_shares(room, things, dict(told))

    def hold_shares(self, room, things, boxes):
        """Things part their room by their weights, and so do the things in each."""
        weights = [weight(thing) for thing in things]
        self.assertIsNone(fault(room, weights, [boxes[name] for name, _ in things]))
        for name, held in things:
            share = Fraction(weight((name, held)), sum(weights))
            self.assertEqual(number(area(boxes[name])), number(area(room)) * share)
            if isinstance(held, list):
                self.hold_shares(boxes[name], held, boxes)

    def test_shares_of_the_whole_room_all_the_way_down(self):
        things = [("a", [("b", [("c", 3), ("d", 4)]), ("e", 5)]), ("f", [("g", [("h", [("i", 8)])])])]
        boxes = dict(nested(box_of(0, 0, 10, 2), things, "thirds"))
        for name, whole in (("a", 12), ("b", 7), ("c", 3), ("d", 4), ("e", 5), ("f", 8), ("g", 8), ("h", 8), ("i", 8)):
            self.assertEqual(area(boxes[name]), (whole, 1))

    def test_forty_things_in_all(self):
        for rule in RULES:
            self.assertEqual(len(nested(WIDE, [(name, 2) for name in FORTY], rule)), 40)
            within = [(FORTY[0], [(name, 2) for name in FORTY[1:]])]
            self.assertEqual(len(nested(WIDE, within, rule)), 40)
            lots = [(FORTY[at], [(name, 2) for name in FORTY[at + 1:at + 10]]) for at in range(0, 40, 10)]
            self.assertEqual(len(nested(WIDE, lots, rule)), 40)

    def test_eight_deep(self):
        things = chain_of(FORTY[:7])
        all_lists(things)[-1][0] = (FORTY[6], [(name, 1) for name in FORTY[7:]])
        self.assertEqual([name for name, _ in nested(WIDE, things, "rows")], FORTY)

    def test_the_told_list_is_the_askers_own(self):
        things = [("a", [("b", 1), ("c", 2)]), ("d", 4)]
        first = nested(SQUARE, things, "rows")
        kept = list(first)
        first.clear()
        self.assertEqual(nested(SQUARE, things, "rows"), kept)
        told = nested(SQUARE, things, "rows")
        things[0][1].append(("e", 9))
        self.assertEqual(told, kept)


class Refused(unittest.TestCase):
    THINGS = [("a", [("b", 1), ("c", [("d", 2), ("e", 1)]), ("f", 7)]), ("g", 4), ("h", [("i", 3)])]

    def refuse(self, error, room, things, rule):
        with self.subTest(things=things, rule=rule):
            kept = repr(things)
            with self.assertRaises(error):
                nested(room, things, rule)
            self.assertEqual(repr(things), kept)

    def test_rooms_that_are_none_ahead_of_all_else(self):
        for thing in no_boxes():
            for things in ([("a", 1)], [], None, [("a", 1)] * 41, chain_of(FORTY[:9])):
                for rule in ("rows", "Rows"):
                    self.refuse(NoBox, thing, things, rule)

    def test_what_is_no_list_of_things(self):
        for things in NO_THINGS:
            for rule in ("rows", "", "Rows"):
                self.refuse(NoThing, WIDE, things, rule)

    def with_other(self, at, place, thing):
        """The things with another one at a place of the at-th list."""
        things = copy.deepcopy(self.THINGS)
        all_lists(things)[at][place] = thing
        return things

    def each_place(self):
        for at, there in enumerate(all_lists(self.THINGS)):
            for place in range(len(there)):
                yield at, place

    def test_another_thing_at_any_place_and_depth(self):
        wrong = [thing for things in NO_THINGS if isinstance(things, list) for thing in things]
        wrong += [("z", held) for held in NO_WEIGHT] + [("z", [held]) for held in NO_WEIGHT]
        wrong += [("z", things) for things in NO_THINGS if things not in (1, BIG) or things is True]
        for at, place in self.each_place():
            for thing in wrong:
                self.refuse(NoThing, WIDE, self.with_other(at, place, thing), "rows")

    def test_names_that_are_none_at_any_place(self):
        for at, place in self.each_place():
            for name in NO_NAMES:
                self.refuse(NoThing, WIDE, self.with_other(at, place, (name, 3)), "rows")
                self.refuse(NoThing, WIDE, self.with_other(at, place, (name, [("z", 3)])), "rows")
                self.refuse(NoThing, WIDE, self.with_other(at, place, ("z", [(name, 3)])), "rows")

    def test_names_that_stand_twice_wherever(self):
        for at, place in self.each_place():
            there = names_in([all_lists(self.THINGS)[at][place]])
            for name in names_in(self.THINGS):
                changed = self.with_other(at, place, (name, 3))
                if name in there:
                    self.assertEqual(len(names_in(changed)), len(nested(WIDE, changed, "rows")))
                else:
                    self.refuse(NoThing, WIDE, changed, "rows")
        self.refuse(NoThing, WIDE, [("a", [("a", 1)])], "rows")
        self.refuse(NoThing, WIDE, [("a", 1), ("a", 1)], "rows")
        inner = [("b", 1)]
        self.refuse(NoThing, WIDE, [("a", inner), ("c", inner)], "rows")

    def test_forty_one_things(self):
        names = FORTY + ["zz"]
        for rule in ("rows", "Rows", ""):
            self.refuse(TooMany, WIDE, [(name, 1) for name in names], rule)
            self.refuse(TooMany, WIDE, [(names[0], [(name, 1) for name in names[1:]])], rule)
            self.refuse(TooMany, WIDE, [("zz", [("zy", [(name, 1) for name in FORTY[:20]])])] + [
                (name, 1) for name in FORTY[20:39]], rule)

    def test_more_than_eight_deep(self):
        for many in (9, 10, 20, 39, 40, 41):
            names = (FORTY + ["zz"])[:many]
            for rule in ("rows", "Rows"):
                self.refuse(TooMany, WIDE, chain_of(names), rule)
        self.refuse(TooMany, WIDE, [("zz", 5)] + chain_of(FORTY[:9]) + [("zy", 5)], "rows")

    def test_no_thing_ahead_of_too_many(self):
        names = FORTY + ["zz"]
        many = [(name, 1) for name in names]
        for thing in [("a", 0), ("A", 1), None, (names[0], 1), ("a", [])]:
            self.refuse(NoThing, WIDE, many + [thing], "rows")
            self.refuse(NoThing, WIDE, [thing] + many, "rows")
            deep = chain_of(names[:39])
            all_lists(deep)[-1].append(thing)
            self.refuse(NoThing, WIDE, deep, "Rows")

    def test_texts_that_are_no_rule(self):
        for rule in NO_RULES:
            self.refuse(NoRule, WIDE, [("a", 1)], rule)
            self.refuse(NoRule, WIDE, self.THINGS, rule)


if __name__ == "__main__":
    unittest.main()
