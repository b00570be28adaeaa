"""Point 33: the desk and its lines."""

import random
import unittest

from samples import BIG, FORTY, NO_KINDS, NO_RULES
from weightrooms import errors
from weightrooms.desk import Desk
from weightrooms.errors import NoKind, NoName, NoRow, NoRule, NoWeights, RoomError, Taken, TooMany, Unknown
from weightrooms.keepers import Keeper
from weightrooms.least import least_worst
from weightrooms.rooms import box_of
from weightrooms.rules import RULES, rule_tree
from weightrooms.shapes import bound_of, floor_of, worst
from weightrooms.texts import show_box, show_fraction, show_tree

ASKED = ["tree", "things", "worst", "floor"]
OF_THINGS = ["worst", "floor", "by rows", "bound thirds", "bound rows", "least order", "least any"]

# None of these is a whole number as it is written.
NO_WHOLES = [
    "", "-", "+1", "-0", "00", "01", "1/1", "1/2", "-1/2", "2/1", "6/3", "1.0", "a", "1a", "one", "1,", "~", "0/1",
    "--1", "9" * 31, "-" + "9" * 31, "1" + "0" * 30,
]
# None of these is a fraction as it is written.
NO_FRACTIONS = [text for text in NO_WHOLES if text not in ("1/2", "-1/2")] + ["2/4", "1/0", "1/-2", "1/", "/2"]

# Lines that are none by their first word or their count of words, whatever is there.
NO_LINES = [
    "", " ", "  ", "Tree", "TREE", "trees", "tre", " tree", "tree ", "  tree", "tree  ", "tree a", "ok", "-", "a",
    "help", "things ", " things", "things a", "thing", "worst ", "worst a", "floor ", "floor a", " floor", "Worst",
    "floors", "put", "put ", "put a", "put a 1 ", "put a 1 1", "put  a 1", "put a  1", " put a 1", "puts a 1",
    "Put a 1", "put,a,1", "change", "change ", "change a", "change a 1 ", "change a 1 1", "change  a 1", "change a  1",
    " change a 1", "take", "take a ", "take  a", "take a b", " take a", "takes a", "box", "box a ", "box  a",
    "box a b", " box a", "by", "by rows ", "by  rows", "by rows rows", " by rows", "bound", "bound rows ",
    "bound  rows", " bound rows", "least", "least order ", "least  order", "least order any", " least order",
    "least a b", "rule rows", "room", "room ", "room 0 0 1 1", "room 0 0 1 1 3 ", "room 0 0 1 1 3 3", "room  0 0 1 1 3",
    " room 0 0 1 1 3", "room 0 0 1 1  3", "rooms 0 0 1 1 3", "Room 0 0 1 1 3", "0 0 1 1 3", "~", "put(a 1)",
    "room 0 0 1",
]


def told(desk, *lines):
    """What a desk answers to lines."""
    return [desk.say(line) for line in lines]


def filled(*lines):
    """A desk that was told lines."""
    desk = Desk()
    told(desk, *lines)
    return desk


class Lines(unittest.TestCase):
    def test_with_none(self):
        self.assertEqual(told(Desk(), "tree", "things"), ["-", "-"])

    def test_with_one_thing(self):
        desk = Desk()
        self.assertEqual(desk.say("put a 5"), "-")
        self.assertEqual(told(desk, "tree", "box a", "things", "worst", "floor"), ["a", "0 0 1 1", "a 5", "1 a", "1"])
        for rule in RULES:
            self.assertEqual(desk.say("by " + rule), "0")
        self.assertEqual([desk.say("bound " + rule) for rule in RULES], ["1", "1", "1", "-", "-", "3"])
        self.assertEqual(told(desk, "least order", "least any"), ["1", "1"])
        self.assertEqual(told(desk, "change a 7", "things", "take a", "tree", "things"), ["-", "a 7", "-", "-", "-"])

    def test_with_several(self):
        desk = Desk()
        self.assertEqual(desk.say("room 0 0 4 2 5/2"), "ok")
        self.assertEqual(told(desk, "put a 1", "put b 1", "put c 1", "put d 1"), ["-"] * 4)
        self.assertEqual(desk.say("tree"), "across(across(down(a d) c) b)")
        self.assertEqual(told(desk, "box a", "box d", "box b"), ["0 0 2 1", "0 1 2 1", "3 0 1 2"])
        self.assertEqual(told(desk, "worst", "floor", "things"), ["2 a", "1", "a 1; b 1; c 1; d 1"])
        self.assertEqual(desk.say("change a 2"), "a-d")
        self.assertEqual(desk.say("tree"), "across(across(across(a d) c) b)")
        self.assertEqual(told(desk, "box d", "worst"), ["8/5 0 4/5 2", "5/2 b"])
        self.assertEqual(desk.say("by across"), "across(0 1 2 3)")
        self.assertEqual(desk.say("by thirds"), "across(0 across(1 down(2 3)))")
        self.assertEqual(told(desk, "bound down", "bound halves", "bound thirds"), ["10", "5", "3"])
        self.assertEqual(told(desk, "bound rows", "bound greatest"), ["-", "-"])
        self.assertEqual(told(desk, "take b", "things"), ["-", "a 2; c 1; d 1"])

    def test_several_moved_pairs(self):
        desk = filled("room 0 0 4 2 2", "put a 1", "put b 1", "put c 1", "put d 1")
        self.assertEqual(desk.say("change a 2"), "a-d b-c b-d c-d")
        self.assertEqual(desk.say("tree"), "across(a across(b down(c d)))")

    def test_the_first_keeper(self):
        desk = filled("put b 1", "put a 1", "put c 1")
        # The box of b is just three times as high as wide, and the first most is three.
        self.assertEqual(told(desk, "tree", "worst"), ["across(b down(a c))", "3 b"])
        desk = filled("put b 100", "put a 99")
        self.assertEqual(desk.say("tree"), "across(b a)")
        # Beneath b there would be room for c, but a would be a hair above three.
        self.assertEqual(told(desk, "put c 99", "tree"), ["-", "across(b down(a c))"])
        self.assertEqual(told(filled("put a 1"), "box a"), ["0 0 1 1"])

    def test_things_numbered_by_names(self):
        desk = filled("room 0 0 3 2 9", "put z 1", "put m 2", "put a 3", "put ab 4")
        self.assertEqual(desk.say("things"), "a 3; ab 4; m 2; z 1")
        self.assertEqual(desk.say("by greatest"), show_tree(rule_tree("greatest", box_of(0, 0, 3, 2), [3, 4, 2, 1])))
        self.assertEqual(desk.say("by across"), "across(0 1 2 3)")

    def test_the_first_by_names_that_has_the_worst(self):
        desk = filled("room 0 0 4 1 9", "put d 1", "put c 1", "put b 1", "put a 1")
        self.assertEqual(desk.say("worst"), "1 a")
        desk = filled("put b 1", "put a 1")
        self.assertEqual(desk.say("worst"), "2 a")

    def test_a_room_line_makes_a_new_keeper(self):
        desk = filled("put a 1", "put b 2")
        self.assertEqual(desk.say("room -1/2 3 5/3 7 0"), "ok")
        self.assertEqual(told(desk, "tree", "things"), ["-", "-"])
        with self.assertRaises(Unknown):
            desk.say("box a")
        self.assertEqual(told(desk, "put a 3", "box a", "worst"), ["-", "-1/2 3 5/3 7", "21/5 a"])
        self.assertEqual(told(desk, "room 0 0 1 1 3", "tree"), ["ok", "-"])

    def test_a_most_of_nought_or_below(self):
        for most in ("0", "-1", "-7/3"):
            desk = filled("room 0 0 1 1 " + most, "put c 3", "put b 2")
            self.assertEqual(told(desk, "change b 4", "tree"), ["b-c", "across(b c)"])

    def test_weights_of_thirty_figures(self):
        desk = filled(f"put a {BIG}", f"put b {BIG - 1}")
        self.assertEqual(desk.say("things"), f"a {BIG}; b {BIG - 1}")
        # Told numbers may have more figures than those that are read.
        desk = filled(f"room 0 0 1/{BIG} 1 3", f"put a {BIG}", "put b 1")
        self.assertEqual(desk.say("bound across"), str(BIG * (BIG + 1)))

    def test_the_least_of_small_lists(self):
        desk = filled("room 0 0 3 2 9", "put a 1", "put b 2", "put c 3", "put d 4", "put e 5")
        room = box_of(0, 0, 3, 2)
        for kind in ("order", "any"):
            self.assertEqual(desk.say("least " + kind), show_fraction(least_worst(room, [1, 2, 3, 4, 5], kind)[0]))
        desk.say("put f 6")
        self.assertEqual(desk.say("least order"), show_fraction(least_worst(room, [1, 2, 3, 4, 5, 6], "order")[0]))
        with self.assertRaises(TooMany):
            desk.say("least any")

    def test_two_desks_know_nothing_of_one_another(self):
        one, other = Desk(), Desk()
        one.say("put a 1")
        self.assertEqual(told(other, "tree", "things"), ["-", "-"])
        other.say("room 0 0 2 1 1")
        other.say("put a 7")
        self.assertEqual(told(one, "things", "box a"), ["a 1", "0 0 1 1"])
        self.assertEqual(told(other, "things", "box a"), ["a 7", "0 0 2 1"])


class HeldAgainstAKeeper(unittest.TestCase):
    def hold(self, desk, keeper, room):
        names = sorted(keeper.weights())
        weights = [keeper.weights()[name] for name in names]
        self.assertEqual(desk.say("tree"), "-" if not names else show_tree(keeper.tree()))
        things = "; ".join(f"{name} {weight}" for name, weight in zip(names, weights))
        self.assertEqual(desk.say("things"), things or "-")
        for name in names:
            self.assertEqual(desk.say("box " + name), show_box(keeper.boxes()[name]))
        if not names:
            return
        found, at = worst([keeper.boxes()[name] for name in names])
        self.assertEqual(desk.say("worst"), f"{show_fraction(found)} {names[at]}")
        self.assertEqual(desk.say("floor"), show_fraction(floor_of(room, weights)))
        for rule in RULES:
            self.assertEqual(desk.say("by " + rule), show_tree(rule_tree(rule, room, weights)))
            bound = bound_of(rule, room, weights)
            self.assertEqual(desk.say("bound " + rule), "-" if bound is None else show_fraction(bound))

    def test_deeds_as_the_die_falls(self):
        dice = random.Random(33)
        for room, most in ((box_of(0, 0, 1, 1), (3, 1)), (box_of((-1, 2), 4, 7, (5, 3)), (2, 1)),
                           (box_of(0, 0, 3, 8), (0, 1))):
            desk, keeper = Desk(), Keeper(room, most)
            self.assertEqual(desk.say(f"room {show_box(room)} {show_fraction(most)}"), "ok")
            for _ in range(60):
                name, weight = dice.choice("abcdefghi"), dice.randint(-1, 12)
                deed = dice.choice(("put", "put", "take", "change"))
                handed = (name,) if deed == "take" else (name, weight)
                line = " ".join([deed] + [str(thing) for thing in handed])
                try:
                    pairs = getattr(keeper, deed)(*handed)
                except RoomError as refusal:
                    with self.assertRaises(RoomError) as caught:
                        desk.say(line)
                    self.assertIs(type(caught.exception), type(refusal))
                else:
                    expected = " ".join(f"{one}-{other}" for one, other in pairs) or "-"
                    self.assertEqual(desk.say(line), expected)
                self.hold(desk, keeper, room)


class Refused(unittest.TestCase):
    def setUp(self):
        self.desks = [Desk(), filled("put a 5"), filled("room 0 0 4 2 5/2", "put a 1", "put bc 2", "put d 3")]
        self.desks.append(filled(*[f"put {name} 2" for name in FORTY]))

    def answers(self, desk):
        """All that a desk answers; where no thing is there, the tree and the things."""
        lines = ASKED if desk.say("things") != "-" else ASKED[:2]
        return told(desk, *lines)

    def refuse(self, desk, error, line):
        before = self.answers(desk)
        with self.subTest(line=line):
            with self.assertRaises(RoomError) as caught:
                desk.say(line)
            self.assertIs(type(caught.exception), error)
        self.assertEqual(self.answers(desk), before)

    def test_lines_that_are_none(self):
        for desk in self.desks[:3]:
            for line in NO_LINES:
                self.refuse(desk, NoRow, line)

    def test_weights_that_are_no_whole_numbers(self):
        for desk in self.desks[:3]:
            for text in NO_WHOLES:
                # Ahead of NoName, Taken and Unknown.
                for name in ("a", "new", "A", "", "abcdefghi"):
                    self.refuse(desk, NoRow, f"put {name} {text}")
                    self.refuse(desk, NoRow, f"change {name} {text}")

    def test_rooms_and_mosts_that_are_none(self):
        for desk in self.desks[:3]:
            for text in NO_FRACTIONS:
                for at in range(5):
                    words = ["0", "-1/2", "3", "5/7", "2"]
                    words[at] = text
                    self.refuse(desk, NoRow, " ".join(["room"] + words))
            for sides in ("0 1", "1 0", "-1 1", "1 -1", "-1/2 -1", "0 0"):
                self.refuse(desk, NoRow, f"room 0 0 {sides} 3")
        self.refuse(self.desks[3], NoRow, "room 0 0 0 1 3")

    def test_names(self):
        for name in ("A", "", "a1", "abcdefghi", "a-b", "~", "1"):
            for weight in ("1", "0", "-3", str(BIG)):
                self.refuse(self.desks[1], NoName, f"put {name} {weight}")
            self.refuse(self.desks[1], Unknown, f"take {name}")
            self.refuse(self.desks[1], Unknown, f"box {name}")
            self.refuse(self.desks[1], Unknown, f"change {name} 0")

    def test_weights_of_nought_and_below(self):
        for weight in ("0", "-1", "-" + "9" * 30):
            for name in ("new", "a"):
                self.refuse(self.desks[2], NoWeights, f"put {name} {weight}")
            self.refuse(self.desks[2], NoWeights, f"change a {weight}")
            self.refuse(self.desks[2], Unknown, f"change b {weight}")

    def test_taken_and_too_many(self):
        self.refuse(self.desks[2], Taken, "put bc 1")
        full = self.desks[3]
        self.refuse(full, TooMany, "put new 1")
        self.refuse(full, Taken, f"put {FORTY[0]} 1")
        self.refuse(full, NoWeights, "put new 0")
        self.refuse(full, NoName, "put NEW 0")
        self.refuse(full, TooMany, "least order")
        self.refuse(full, TooMany, "least any")

    def test_things_that_are_not_there(self):
        for desk in self.desks:
            for line in ("take b", "box b", "change b 1", "change b 0", "take ", "box ", "change  1"):
                self.refuse(desk, Unknown, line)

    def test_unknown_ahead_of_all_but_no_row_where_no_thing_is_there(self):
        empty = self.desks[0]
        for line in OF_THINGS + ["by Rows", "by ", "bound ", "bound none", "least ", "least none", "least Any"]:
            self.refuse(empty, Unknown, line)
            self.refuse(empty, NoRow, line + " ")
            self.refuse(empty, NoRow, line + " rows")
        gone = filled("put a 1", "take a")
        for line in OF_THINGS + ["by Rows", "least none"]:
            self.refuse(gone, Unknown, line)

    def test_rules_and_kinds_that_are_none(self):
        for desk in self.desks[1:3]:
            for rule in NO_RULES:
                if " " not in rule:
                    self.refuse(desk, NoRule, "by " + rule)
                    self.refuse(desk, NoRule, "bound " + rule)
            for kind in NO_KINDS:
                if " " not in kind:
                    self.refuse(desk, NoKind, "least " + kind)
        self.refuse(self.desks[3], NoKind, "least all")

    def test_behind_a_refused_line_all_goes_on_as_ahead_of_it(self):
        lines = ["room 0 0 4 2 5/2", "put a 1", "put b 1", "put c 1", "put d 1", "change a 2", "take b", "put b 3"]
        wrong = NO_LINES + ["put a 0", "put A 1", "take z", "change z 1", "box z", "by Rows", "bound x", "least x",
                            "room 0 0 0 0 3", "put z 1/2"]
        plain, tried = Desk(), Desk()
        for line in lines:
            for other in wrong:
                with self.assertRaises(RoomError):
                    tried.say(other)
            self.assertEqual(tried.say(line), plain.say(line))
            self.assertEqual(self.answers(tried), self.answers(plain))

    def test_no_other_refusals(self):
        for desk in self.desks:
            for line in NO_LINES + ["put A x", "box", "least x"]:
                with self.assertRaises(RoomError) as caught:
                    desk.say(line)
                self.assertEqual(type(caught.exception).__module__, errors.__name__)


if __name__ == "__main__":
    unittest.main()
