"""Point 32: fractions, boxes and trees, written and read."""

import math
import random
import sys
import unittest

from samples import BIG, BOXES, HIGH, NO_WAYS, PRIME, SQUARE, WAYS, WEIGHTS, WIDE, chain, chain_back, mixed, some_tree
from weightrooms.errors import NoText
from weightrooms.rooms import box_of
from weightrooms.rules import RULES, by_rule, rule_tree
from weightrooms.texts import read_box, read_fraction, read_tree, show_box, show_fraction, show_tree

FRACTIONS = [
    ((0, 1), "0"), ((1, 1), "1"), ((-1, 1), "-1"), ((10, 1), "10"), ((1, 2), "1/2"), ((-1, 2), "-1/2"),
    ((7, 3), "7/3"), ((-100, 9), "-100/9"), ((BIG, 1), "9" * 30), ((-BIG, 1), "-" + "9" * 30),
    ((1, BIG), "1/" + "9" * 30), ((-BIG, BIG - 1), "-" + "9" * 30 + "/" + "9" * 29 + "8"),
    ((10 ** 29, 1), "1" + "0" * 29),
]

# None of these is the text of a fraction.
NO_FRACTIONS = [
    "", " ", "-", "+", "/", "//", "+1", "-0", "+0", "00", "01", "-01", "007", "1/1", "0/1", "2/4", "0/5", "-0/1",
    "6/3", "1/0", "0/0", "-1/0", "1/-2", "-1/-2", "1/+2", "1/02", "01/2", "1/", "/2", "1//2", "1/2/3", "1 /2", "1/ 2",
    " 1", "1 ", " 1/2", "1/2 ", "1 2", "--1", "- 1", "1-", "-/2", "1.0", ".5", "1e3", "1_000", "1,5", "a", "1a", "a1",
    "0x1", "one", "1/a", "a/2", "~", "(1)", "1)", "-1/", "3/9", "-4/6", "4/2", "1/-0", "1/00", "None", "True", "=1",
    "1=", "9" * 31, "-" + "9" * 31, "1/" + "9" * 31, "1" + "0" * 30, "0" * 31, "1" * 400, "1/1" + "0" * 30, "-" * 40,
    "0" + "9" * 30, "1" * 5000, "1/" + "3" * 5000,
]

TREES = [
    (0, "0"), (("across", (0, 1)), "across(0 1)"), (("down", (1, 0)), "down(1 0)"),
    (("across", (0, ("down", (1, 2)))), "across(0 down(1 2))"),
    (("down", (("across", (2, 0)), 1)), "down(across(2 0) 1)"),
    (("across", (("down", (0, 1)), ("down", (2, 3)))), "across(down(0 1) down(2 3))"),
    (("across", (("across", (0, ("across", (1, 2)))), 3)), "across(across(0 across(1 2)) 3)"),
    (("down", (3, 1, 4, 0, 2)), "down(3 1 4 0 2)"),
]

# None of these is the text of a tree.
NO_TREES = [
    "", " ", "1", "-0", "00", "01", "+0", "-1", "2", "40", "0/1", "0 1", "0 ", " 0", "(0)", "(0 1)", "()", "(", ")",
    "0)", "(0", "))", "((", "across", "down", "across(", "across()", "across)", "across(0", "across(0)", "across(0 1",
    "across(0 1))", "across((0 1))", "across((0 1)", "across(0 0)", "across(1 1)", "across(0 2)", "across(1 2)",
    "across(0 1 3)", "across(0 1 1)", "across(0 -1)", "across(-0 1)", "across(00 1)", "across(0 01)", "across(+0 1)",
    "across( 0 1)", "across(0 1 )", "across(0  1)", " across(0 1)", "across(0 1) ", "across (0 1)", "across(0, 1)",
    "across(0,1)", "across(01)", "across[0 1]", "across(0 1)across(2 3)", "across(0 1) across(2 3)", "across(0 1)2",
    "across(0 1) 2", "0 across(1 2)", "across(0 down(1))", "across(0 down())", "across(0 down(1 2)",
    "across(0 down 1 2)", "across(0 down(1 2)) ", "across(0 down(1 2)3)", "across(0down(1 2))", "across(down(0 1)2)",
    "across(down(0 1)down(2 3))", "across(0 (1 2))", "across(0 1/2)", "across(0 1/1)", "across(a b)", "across(0 b)",
    "a", "across(0 None)", "across(0 ())", "acrossdown(0 1)", "down(across(0 1)", "down(across(0 1) across(1 2))",
    "(across(0 1))", "('across', (0, 1))", "0()", "across(0 1)(2 3)", "across(0 1" + ")" * 30, "across(" * 30 + "0",
    "9" * 31, "across(0 " + "1" * 31 + ")", "across(0 " + "9" * 30 + ")", "~", "across(0 1)~", "across(0 ~)",
    "across(0 1) )", "across(0 1 ) )", "( 0 1 )",
] + [way + "(0 1)" for way in NO_WAYS] + ["across(0 " + way + "(1 2))" for way in NO_WAYS]


def plain_text(tree):
    """The text of a tree."""
    if not isinstance(tree, tuple):
        return str(tree)
    return f"{tree[0]}({' '.join(plain_text(part) for part in tree[1])})"


class Fractions(unittest.TestCase):
    def test_written_out(self):
        for one, text in FRACTIONS:
            self.assertEqual(show_fraction(one), text)
            self.assertEqual(read_fraction(text), one)
            self.assertIs(type(read_fraction(text)), tuple)

    def test_each_text_is_read_as_the_same(self):
        dice = random.Random(32)
        for _ in range(2000):
            most = 10 ** dice.randint(1, 30) - 1
            top, bottom = dice.randint(-most, most), dice.randint(1, most)
            text = f"{top}/{bottom}"
            if bottom == 1 or math.gcd(top, bottom) != 1:
                with self.assertRaises(NoText):
                    read_fraction(text)
            else:
                self.assertEqual(read_fraction(text), (top, bottom))
                self.assertEqual(show_fraction((top, bottom)), text)
            self.assertEqual(read_fraction(str(top)), (top, 1))
            self.assertEqual(show_fraction((top, 1)), str(top))

    def test_small_ones_all(self):
        for top in range(-30, 31):
            self.assertEqual(read_fraction(show_fraction((top, 1))), (top, 1))
            for bottom in range(0, 13):
                lowest = bottom > 1 and math.gcd(top, bottom) == 1
                if lowest:
                    self.assertEqual(read_fraction(f"{top}/{bottom}"), (top, bottom))
                else:
                    with self.assertRaises(NoText):
                        read_fraction(f"{top}/{bottom}")

    def test_texts_that_are_none(self):
        for text in NO_FRACTIONS:
            with self.subTest(text=text), self.assertRaises(NoText):
                read_fraction(text)

    def test_a_greater_number_is_shown_and_its_text_refused(self):
        for many in (31, 32, 63, 64, 65, 127, 128, 129, 200, 1000):
            for top in (10 ** (many - 1), 10 ** many - 1, 10 ** (many - 1) + 7):
                for one, text in (((top, 1), str(top)), ((-top, 1), str(-top)), ((1, top), f"1/{top}")):
                    self.assertEqual(show_fraction(one), text)
                    with self.assertRaises(NoText):
                        read_fraction(text)

    def test_figures_beyond_those_that_python_writes_by_itself(self):
        limit = sys.get_int_max_str_digits()
        for many in (limit - 1, limit, limit + 1, 3 * limit):
            text = show_fraction((10 ** many, 1))
            self.assertTrue(text == "1" + "0" * many)
            text = show_fraction((-(10 ** many - 1), 10 ** many))
            self.assertTrue(text == "-" + "9" * many + "/1" + "0" * many)
            with self.assertRaises(NoText):
                read_fraction(text)


class Boxes(unittest.TestCase):
    def test_written_out(self):
        self.assertEqual(show_box(SQUARE), "0 0 1 1")
        self.assertEqual(show_box(WIDE), "-1/2 3/4 7/2 5/3")
        self.assertEqual(show_box(HIGH), "2 -5 1/3 9")
        self.assertEqual(read_box("0 0 1 1"), SQUARE)
        self.assertEqual(read_box("-1/2 3/4 7/2 5/3"), WIDE)
        self.assertEqual(read_box("2 -5 1/3 9"), HIGH)

    def test_each_text_is_read_as_the_same(self):
        for room in BOXES:
            self.assertEqual(read_box(show_box(room)), room)
            for weights in WEIGHTS[:8]:
                for rule in RULES:
                    for box in by_rule(rule, room, weights):
                        if max(max(abs(part[0]), part[1]) for part in box) <= BIG:
                            self.assertEqual(read_box(show_box(box)), box)
                        else:
                            with self.assertRaises(NoText):
                                read_box(show_box(box))

    def test_texts_that_are_none(self):
        texts = ["", " ", "0", "0 0 1", "0 0 1 1 1", "0 0 1 1 ", " 0 0 1 1", "0  0 1 1", "0 0 1  1", "0 0  1", "   ",
                 "0,0,1,1", "0 0 1 0", "0 0 0 1", "0 0 -1 1", "0 0 1 -1", "0 0 -1/2 1", "(0 0 1 1)", "0/0/1/1"]
        for text in NO_FRACTIONS:
            for at in range(4):
                parts = ["2", "1/2", "3", "5/7"]
                parts[at] = text
                texts.append(" ".join(parts))
        for text in texts:
            with self.subTest(text=text), self.assertRaises(NoText):
                read_box(text)

    def test_a_greater_number_is_shown_and_its_text_refused(self):
        for at in range(4):
            for part, text in (((BIG + 1, 1), str(BIG + 1)), ((1, BIG + 1), f"1/{BIG + 1}")):
                parts, texts = [(1, 1)] * 4, ["1"] * 4
                parts[at], texts[at] = part, text
                self.assertEqual(show_box(box_of(*parts)), " ".join(texts))
                with self.assertRaises(NoText):
                    read_box(" ".join(texts))


class Trees(unittest.TestCase):
    def test_written_out(self):
        for tree, text in TREES:
            self.assertEqual(show_tree(tree), text)
            self.assertEqual(read_tree(text), tree)

    def test_each_text_is_read_as_the_same(self):
        dice = random.Random(320)
        for many in range(1, 41):
            for most in (2, 3, 40):
                tree = some_tree(dice, mixed(dice, range(many)), most)
                self.assertEqual(show_tree(tree), plain_text(tree))
                self.assertEqual(read_tree(show_tree(tree)), tree)
            for way in WAYS:
                for make in (chain, chain_back):
                    tree = make(list(range(many)), (way,))
                    self.assertEqual(read_tree(show_tree(tree)), tree)

    def test_of_rules(self):
        for rule in RULES:
            for weights in WEIGHTS:
                tree = rule_tree(rule, WIDE, weights)
                self.assertEqual(read_tree(show_tree(tree)), tree)

    def test_texts_that_are_none(self):
        for text in NO_TREES:
            with self.subTest(text=text), self.assertRaises(NoText):
                read_tree(text)

    def test_a_sign_less_or_more_at_any_place(self):
        text = "across(0 down(3 1) across(2 down(5 4 6)))"
        read_tree(text)
        for at in range(len(text) + 1):
            for other in ([text[:at] + text[at + 1:]] if at < len(text) else []) + [
                    text[:at] + sign + text[at:] for sign in " ()07a-/"]:
                with self.subTest(text=other), self.assertRaises(NoText):
                    read_tree(other)

    def test_forty_one_things(self):
        for make in (chain, chain_back):
            tree = make(list(range(41)))
            self.assertEqual(show_tree(tree), plain_text(tree))
            with self.assertRaises(NoText):
                read_tree(show_tree(tree))
        for many in (41, 42, 400):
            with self.assertRaises(NoText):
                read_tree(show_tree(("down", tuple(range(many)))))
        self.assertEqual(read_tree(show_tree(("down", tuple(range(40))))), ("down", tuple(range(40))))

    def test_texts_that_go_deep(self):
        deep = 5000
        chained = "".join(f"across({at} " for at in range(deep)) + str(deep) + ")" * deep
        for text in ("across(" * deep, "across(0 " * deep, ")" * deep, "(" * deep, "across(" * deep + "0" + ")" * deep,
                     "across(" * deep + "0 1" + ")" * deep, "down(0 " * deep + "1" + ")" * deep, chained,
                     "across(0 1" + " 1" * deep + ")"):
            with self.assertRaises(NoText):
                read_tree(text)

    def test_what_was_told_of_great_numbers_is_shown(self):
        self.assertEqual(show_tree(("across", (BIG, PRIME))), f"across({BIG} {PRIME})")
        with self.assertRaises(NoText):
            read_tree(f"across({BIG} {PRIME})")


if __name__ == "__main__":
    unittest.main()
