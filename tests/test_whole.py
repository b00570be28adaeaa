"""Points 2, 3 and 4 over the whole program, and the interface as it stands."""

import importlib
import inspect
import random
import unittest

from samples import BIG, BOXES, FORTY, HIGH, SQUARE, WIDE, WOUND, drawn_likewise, mixed, some_tree
from weightrooms import errors
from weightrooms.back import lies_in, tree_back, weights_back
from weightrooms.desk import Desk
from weightrooms.fracs import fraction, over
from weightrooms.held import first_better, list_behind
from weightrooms.keepers import Keeper
from weightrooms.least import least_worst
from weightrooms.looker import fault
from weightrooms.nests import nested
from weightrooms.papers import first_cuts, paper_of, stands
from weightrooms.rooms import area, box_of, parted
from weightrooms.rules import RULES, by_rule, rule_tree
from weightrooms.shapes import bound_of, floor_of, worst
from weightrooms.texts import read_box, read_fraction, read_tree, show_box, show_fraction, show_tree
from weightrooms.trees import boxes_by, relation

INTERFACE = {
    "fracs": ["fraction(top, bottom)", "added(one, other)", "lessened(one, other)", "times(one, other)",
              "over(one, other)", "is_less(one, other)"],
    "rooms": ["box_of(left, top, wide, high)", "is_box(thing)", "area(box)", "shape(box)", "long_way(box)",
              "parted(box, way, weights)", "turned(box)"],
    "looker": ["fault(room, weights, boxes)"],
    "trees": ["is_tree(thing, many)", "boxes_by(room, weights, tree)", "plain_form(tree)",
              "relation(tree, one, other)", "turned_tree(tree)"],
    "rows": ["rows_tree(room, weights)", "greatest_tree(room, weights)"],
    "rules": ["halves_tree(room, weights)", "thirds_tree(room, weights)", "rule_tree(rule, room, weights)",
              "by_rule(rule, room, weights)"],
    "shapes": ["worst(boxes)", "floor_of(room, weights)", "bound_of(rule, room, weights)"],
    "least": ["least_worst(room, weights, kind)"],
    "papers": ["first_cuts(numbers, kind)", "paper_of(room, weights, kind)",
               "stands(room, weights, kind, bound, paper)"],
    "held": ["list_behind(weights)", "first_better(one, other, room, most)"],
    "moves": ["moved_pairs(tree, other)"],
    "keepers": ["Keeper(room, most)"],
    "nests": ["nested(room, things, rule)"],
    "back": ["weights_back(boxes)", "tree_back(room, boxes)", "lies_in(rooms)"],
    "texts": ["show_fraction(one)", "show_box(box)", "show_tree(tree)", "read_fraction(text)", "read_box(text)",
              "read_tree(text)"],
    "desk": ["Desk()"],
}
METHODS = {
    "keepers": ["Keeper", "put(name, weight)", "take(name)", "change(name, weight)", "tree()", "boxes()", "weights()"],
    "desk": ["Desk", "say(line)"],
}


def filled(many=3):
    """A keeper with so many things."""
    keeper = Keeper(WIDE, (3, 1))
    for name in FORTY[:many]:
        keeper.put(name, 2)
    return keeper


def told_desk(*lines):
    """A desk that was told lines."""
    desk = Desk()
    for line in lines:
        desk.say(line)
    return desk


# For each class places where the program refuses with it.
REFUSALS = {
    "NoFraction": [lambda: fraction(1, 0), lambda: over((1, 2), (0, 1))],
    "NoBox": [lambda: area(None), lambda: box_of(0, 0, 0, 1), lambda: Keeper(None, (3, 1)),
              lambda: nested([], [], ""), lambda: tree_back(SQUARE, [WIDE]), lambda: lies_in([("a", None)])],
    "NoWay": [lambda: parted(SQUARE, "up", [1])],
    "NoWeights": [lambda: by_rule("rows", SQUARE, []), lambda: list_behind([0]), lambda: filled().put("a", 0),
                  lambda: first_better("rows", "rows", SQUARE, 9), lambda: told_desk("put a 0")],
    "TooMany": [lambda: floor_of(SQUARE, [1] * 41), lambda: list_behind([1] * 41), lambda: filled(40).put("zz", 1),
                lambda: least_worst(SQUARE, [1] * 7, "order"), lambda: tree_back(SQUARE, [SQUARE] * 41),
                lambda: nested(SQUARE, [(name, 1) for name in FORTY + ["zz"]], "rows")],
    "NoTree": [lambda: boxes_by(SQUARE, [1, 2], 0)],
    "NoRule": [lambda: rule_tree("row", SQUARE, [1]), lambda: bound_of("", SQUARE, [1]),
               lambda: first_better("rows", "Rows", None, None), lambda: told_desk("put a 1", "by row")],
    "NoKind": [lambda: first_cuts([0, 1], "all"), lambda: paper_of(SQUARE, [1], ""),
               lambda: told_desk("put a 1", "least all")],
    "NoName": [lambda: filled().put("A", 0), lambda: told_desk("put A 1")],
    "Taken": [lambda: filled().put(FORTY[0], 1), lambda: told_desk("put a 1", "put a 2")],
    "Unknown": [lambda: relation(0, 0, 0), lambda: filled().take("zz"), lambda: filled().change([], 0),
                lambda: told_desk("worst"), lambda: told_desk("box a")],
    "NoThing": [lambda: nested(SQUARE, [], "rows"), lambda: nested(SQUARE, [("a", 1), ("a", 1)], "")],
    "NoCut": [lambda: tree_back(SQUARE, [drawn_likewise(parts, SQUARE) for parts in WOUND])],
    "NoText": [lambda: read_fraction("2/4"), lambda: read_box("0 0 1"), lambda: read_tree("across(0)")],
    "NoRow": [lambda: told_desk(""), lambda: told_desk("put a 1/2"), lambda: told_desk("room 0 0 0 1 3")],
}


class Interface(unittest.TestCase):
    def shown(self, name, thing, skip=0):
        parameters = list(inspect.signature(thing).parameters)[skip:]
        return f"{name}({', '.join(parameters)})"

    def test_each_name_with_its_arguments(self):
        for module, rows in INTERFACE.items():
            there = importlib.import_module(f"weightrooms.{module}")
            for row in rows:
                name = row.partition("(")[0]
                self.assertEqual(self.shown(name, getattr(there, name)), row)

    def test_methods(self):
        for module, (kind, *rows) in METHODS.items():
            there = getattr(importlib.import_module(f"weightrooms.{module}"), kind)
            for row in rows:
                name = row.partition("(")[0]
                self.assertEqual(self.shown(name, getattr(there, name), 1), row)

    def test_the_rules(self):
        self.assertEqual(RULES, ("across", "down", "halves", "rows", "greatest", "thirds"))


class Refusals(unittest.TestCase):
    def test_all_fifteen_are_here(self):
        kinds = [name for name, value in vars(errors).items() if inspect.isclass(value) and name != "RoomError"]
        self.assertEqual(sorted(REFUSALS), sorted(kinds))
        self.assertEqual(len(kinds), 15)

    def test_each_is_of_its_class_alone_a_room_error_and_a_value_error(self):
        for name, deeds in REFUSALS.items():
            for deed in deeds:
                with self.subTest(name), self.assertRaises(errors.RoomError) as caught:
                    deed()
                self.assertIs(type(caught.exception), getattr(errors, name), name)
                self.assertIsInstance(caught.exception, ValueError)
                for other in REFUSALS:
                    self.assertEqual(isinstance(caught.exception, getattr(errors, other)), other == name)


class ThePromise(unittest.TestCase):
    def test_what_is_parted_is_read_back_written_and_read(self):
        dice = random.Random(4)
        for _ in range(60):
            room, many = dice.choice(BOXES), dice.randint(1, 12)
            weights = [dice.randint(1, 30) for _ in range(many)]
            tree = read_tree(show_tree(some_tree(dice, mixed(dice, range(many)))))
            boxes = boxes_by(read_box(show_box(room)), weights, tree)
            self.assertIsNone(fault(room, weights, boxes))
            back = tree_back(room, boxes)
            self.assertEqual(boxes_by(room, weights_back(boxes), read_tree(show_tree(back))), boxes)

    def test_what_was_told_may_be_handed_in_of_whatever_figures(self):
        room = box_of((1, BIG ** 9), -(BIG ** 7), (BIG ** 20, BIG + 2), (BIG + 4, BIG ** 21))
        weights = [BIG ** 6, 1, BIG ** 5, 7]
        for rule in RULES:
            boxes = by_rule(rule, room, weights)
            self.assertIsNone(fault(room, weights, boxes))
            self.assertEqual(weights_back(boxes), weights)
            self.assertEqual(boxes_by(room, weights, tree_back(room, boxes)), boxes)
            self.assertEqual(lies_in([("a", boxes[0]), ("room", room)]), [("a", "room"), ("room", None)])
            self.assertEqual(show_box(boxes[1]).split(" ")[2], show_fraction(boxes[1][2]))

    def test_by_the_rules_no_worst_is_beyond_the_bound_nor_below_the_floor_or_the_least(self):
        dice = random.Random(44)
        for _ in range(25):
            weights = [dice.randint(1, 12) for _ in range(dice.randint(1, 5))]
            for room in (SQUARE, WIDE, HIGH):
                least = {kind: least_worst(room, weights, kind)[0] for kind in ("order", "any")}
                for rule in RULES:
                    found = fraction(*worst(by_rule(rule, room, weights))[0])
                    for below in [least["any"], floor_of(room, weights)] + [least["order"]] * (rule in RULES[:4]):
                        self.assertLessEqual(below[0] * found[1], found[0] * below[1])
                    bound = bound_of(rule, room, weights)
                    if bound is not None:
                        self.assertLessEqual(found[0] * bound[1], bound[0] * found[1])
                for kind in ("order", "any"):
                    paper = paper_of(room, weights, kind)
                    self.assertIs(stands(room, weights, kind, least[kind], paper), True)


if __name__ == "__main__":
    unittest.main()
