"""Points 26 and 27: keepers, their deeds, the mending behind each, and the moved pairs that are told."""

import itertools
import random
import unittest
from fractions import Fraction

from samples import (
    BIG, FORTY, HIGH, NO_NAMES, NO_WEIGHT, SQUARE, VAST, WIDE, no_boxes, number, plain_boxes, plain_relation,
    plain_shape, plain_thirds, plainly, renamed, standing_in,
)
from weightrooms.errors import NoBox, NoName, NoWeights, Taken, TooMany, Unknown
from weightrooms.keepers import Keeper
from weightrooms.looker import fault
from weightrooms.rooms import box_of, shape
from weightrooms.rules import thirds_tree
from weightrooms.shapes import bound_of
from weightrooms.trees import is_tree

# Of whatever is handed in as a name: none of these is there.
NOT_THERE = NO_NAMES + ["b", "aa", "z", "abcdefgh", True, 0, -1, (), ("a",), ["a"], {"a": 1}, [["a"]], set(), object()]


class PlainKeeper:
    """A keeper of the test's own: the document's words over plain numbers and rooms."""

    def __init__(self, room, most):
        self.room, self.most = plainly(room), number(most)
        self.weights, self.tree = {}, None

    def boxes(self, room=None, tree=None):
        tree = self.tree if tree is None else tree
        return {} if tree is None else plain_boxes(room or self.room, self.weights, tree)

    def put(self, name, weight):
        if self.tree is None:
            grown = name
        else:
            beside = sorted(self.weights, key=lambda there: (-self.weights[there], there))[0]
            _, _, wide, high = plainly(self.boxes()[beside])
            grown = self.exchanged(self.tree, beside, ("down" if high > wide else "across", (beside, name)))
        self.weights[name] = weight
        return self.mended(grown)

    def take(self, name):
        del self.weights[name]
        return self.mended(self.pruned(self.tree, name))

    def change(self, name, weight):
        self.weights[name] = weight
        return self.mended(self.tree)

    def exchanged(self, tree, part, other):
        if tree == part:
            return other
        if not isinstance(tree, tuple):
            return tree
        return (tree[0], tuple(self.exchanged(inner, part, other) for inner in tree[1]))

    def pruned(self, tree, name):
        if not isinstance(tree, tuple):
            return None if tree == name else tree
        left = [inner for inner in (self.pruned(part, name) for part in tree[1]) if inner is not None]
        return (tree[0], tuple(left)) if len(left) > 1 else left[0]

    def above(self, room, tree):
        boxes = self.boxes(room, tree)
        return sorted(name for name, box in boxes.items() if plain_shape(*plainly(box)[2:]) > self.most)

    def trees_around(self, room, tree, name):
        """The trees that have a name in them, the least first, each with its room."""
        if not isinstance(tree, tuple):
            return []
        left, top, wide, high = room
        whole = sum(self.weights[thing] for thing in standing_in(tree))
        for part in tree[1]:
            share = Fraction(sum(self.weights[thing] for thing in standing_in(part)), whole)
            size = (wide * share, high) if tree[0] == "across" else (wide, high * share)
            if name in standing_in(part):
                return self.trees_around((left, top, *size), part, name) + [(room, tree)]
            left, top = (left + size[0], top) if tree[0] == "across" else (left, top + size[1])
        return []

    def anew(self, room, tree):
        names = sorted(standing_in(tree))
        return renamed(plain_thirds(*room[2:], [self.weights[name] for name in names]), names)

    def mended(self, tree):
        before, self.tree, self.parted = self.tree, tree, []
        over = tree is None
        while not over and isinstance(self.tree, tuple) and self.above(self.room, self.tree):
            name = self.above(self.room, self.tree)[0]
            for room, part in self.trees_around(self.room, self.tree, name):
                anew, over = self.anew(room, part), part == self.tree
                if over or not self.above(room, anew):
                    self.tree = self.exchanged(self.tree, part, anew)
                    self.parted.append(sorted(standing_in(part)))
                    break
        return self.moved(before, self.tree)

    def moved(self, before, behind):
        both = sorted(set(standing_in(before)) & set(standing_in(behind)))
        return [(one, other) for one, other in itertools.combinations(both, 2)
                if plain_relation(before, one, other) != plain_relation(behind, one, other)]


def told_by(keeper):
    """All that a keeper tells."""
    return keeper.tree(), keeper.boxes(), keeper.weights()


def filled(room, most, things):
    """A keeper with things, put in this order."""
    keeper = Keeper(room, most)
    for name, weight in things:
        keeper.put(name, weight)
    return keeper


def some_deeds(dice, many, names, most_weight, most_things=40):
    """Deeds as the die falls: tuples of the deed's name and what is handed in."""
    there = []
    for _ in range(many):
        deed = dice.choice(("put", "put", "put", "take", "change", "change"))
        weight = dice.choice((1, dice.randint(1, most_weight), dice.randint(1, 3)))
        if deed == "put" and len(there) < min(most_things, len(names)) or not there:
            name = dice.choice([name for name in names if name not in there])
            there.append(name)
            yield ("put", name, weight)
        elif deed == "take":
            yield ("take", there.pop(dice.randrange(len(there))))
        else:
            yield ("change", dice.choice(there), weight)


class Held(unittest.TestCase):
    """What holds behind each deed, whatever it was."""

    def hold(self, keeper, plain):
        self.assertEqual(keeper.weights(), plain.weights)
        self.assertEqual(keeper.tree(), plain.tree)
        self.assertEqual(keeper.boxes(), plain.boxes())
        self.assertIs(type(keeper.boxes()), dict)
        self.assertIs(type(keeper.weights()), dict)
        names = sorted(plain.weights)
        if names:
            weights, boxes = [plain.weights[name] for name in names], keeper.boxes()
            self.assertIsNone(fault(keeper.room, weights, [boxes[name] for name in names]))
            numbered = renamed(keeper.tree(), {name: at for at, name in enumerate(names)})
            self.assertIs(is_tree(numbered, len(names)), True)

    def run_deeds(self, room, most, deeds):
        """The deeds, done and held against the plain keeper; told is what trees were parted anew behind each."""
        keeper, plain = Keeper(room, most), PlainKeeper(room, most)
        parted = []
        for deed, *rest in deeds:
            before = keeper.tree()
            told = getattr(keeper, deed)(*rest)
            self.assertIs(type(told), list)
            self.assertEqual(told, getattr(plain, deed)(*rest), (deed, rest))
            self.assertEqual(told, plain.moved(before, keeper.tree()))
            self.hold(keeper, plain)
            parted.append(list(plain.parted))
            # A pair moves within a tree that is parted anew alone.
            for one, other in told:
                self.assertTrue(any(one in lot and other in lot for lot in plain.parted), (deed, rest, one, other))
            if not plain.parted:
                self.assertEqual(told, [])
        return parted

    def test_deeds_as_the_die_falls(self):
        dice = random.Random(26)
        mosts = [(3, 1), (2, 1), (5, 2), (1, 1), (4, 1), (10, 1), (0, 1), (-7, 2), (1, 3), (BIG, 1)]
        for room in (SQUARE, WIDE, HIGH, box_of(0, 0, 30, 1)):
            for most in mosts:
                for most_weight in (4, 60):
                    names = ["a", "b", "ab", "c", "zz", "abcdefgh", "hgfedcba", "m", "mm", "n", "o", "p"]
                    self.run_deeds(room, most, some_deeds(dice, 22, names, most_weight))

    def test_deeds_with_many_things(self):
        dice = random.Random(27)
        for most in ((3, 1), (6, 1), (0, 1)):
            deeds = [("put", name, dice.randint(1, 9)) for name in FORTY]
            deeds += [("change", name, dice.choice((1, 30))) for name in FORTY[:6]]
            deeds += [("take", name) for name in FORTY[30:34]] + [("put", FORTY[31], 20)]
            self.run_deeds(WIDE, most, deeds)

    def test_weights_of_thirty_figures(self):
        dice = random.Random(28)
        for room, most in ((VAST, (3, 1)), (SQUARE, (BIG, BIG - 1)), (SQUARE, (7, 2))):
            self.run_deeds(room, most, some_deeds(dice, 25, list("abcdefgh"), BIG))

    def test_all_sorts_of_trees_are_parted_anew(self):
        dice = random.Random(29)
        inner = whole = several = none = outer = 0
        for _ in range(40):
            deeds = list(some_deeds(dice, 30, list("abcdefghij"), 40))
            count = 0
            for (deed, *_rest), parted in zip(deeds, self.run_deeds(SQUARE, (7, 2), deeds)):
                count += {"put": 1, "take": -1, "change": 0}[deed]
                none += parted == []
                several += len(parted) > 1
                whole += any(len(lot) == count for lot in parted)
                inner += any(len(lot) == 2 < count for lot in parted)
                outer += any(2 < len(lot) < count for lot in parted)
        self.assertTrue(min(inner, whole, several, none, outer) > 5, (inner, whole, several, none, outer))

    def test_none_is_above_most_where_the_bound_of_thirds_is_not(self):
        dice = random.Random(30)
        held = 0
        for room in (SQUARE, WIDE):
            for most in ((3, 1), (4, 1), (9, 1)):
                keeper = Keeper(room, most)
                for deed, *rest in some_deeds(dice, 60, list("abcdefghijkl"), 5):
                    getattr(keeper, deed)(*rest)
                    weights = [keeper.weights()[name] for name in sorted(keeper.weights())]
                    if weights and number(bound_of("thirds", room, weights)) <= number(most):
                        held += 1
                        for box in keeper.boxes().values():
                            self.assertLessEqual(number(shape(box)), number(most))
        self.assertGreater(held, 50)


class Put(unittest.TestCase):
    def test_the_first_thing_alone(self):
        for room in (SQUARE, WIDE, HIGH, VAST):
            for most in ((3, 1), (1, 1), (0, 1), (-1, 1)):
                keeper = Keeper(room, most)
                self.assertEqual(told_by(keeper), (None, {}, {}))
                self.assertEqual(keeper.put("abcdefgh", 7), [])
                self.assertEqual(told_by(keeper), ("abcdefgh", {"abcdefgh": room}, {"abcdefgh": 7}))

    def test_along_the_long_way_of_the_box(self):
        self.assertEqual(filled(SQUARE, (9, 1), [("b", 1), ("a", 1)]).tree(), ("across", ("b", "a")))
        self.assertEqual(filled(box_of(0, 0, 2, 3), (9, 1), [("b", 1), ("a", 1)]).tree(), ("down", ("b", "a")))
        self.assertEqual(filled(box_of(0, 0, 3, 2), (9, 1), [("b", 1), ("a", 1)]).tree(), ("across", ("b", "a")))

    def test_beside_the_greatest_weight(self):
        keeper = filled(box_of(0, 0, 6, 4), (9, 1), [("a", 1), ("b", 2)])
        self.assertEqual(keeper.tree(), ("across", ("a", "b")))
        self.assertEqual(keeper.put("c", 1), [])
        # The box of b is square ahead of the deed, and so is cut across.
        self.assertEqual(keeper.tree(), ("across", ("a", ("across", ("b", "c")))))
        self.assertEqual(keeper.boxes()["b"], box_of((3, 2), 0, 3, 4))
        keeper.put("d", 1)
        self.assertEqual(keeper.tree(), ("across", ("a", ("across", (("down", ("b", "d")), "c")))))

    def test_the_first_by_names_of_several(self):
        keeper = filled(SQUARE, (9, 1), [("c", 4), ("b", 4), ("d", 4)])
        self.assertEqual(keeper.tree(), ("across", ("c", ("down", ("b", "d")))))
        keeper.put("a", 3)
        self.assertEqual(keeper.tree(), ("across", ("c", ("down", (("across", ("b", "a")), "d")))))
        keeper = filled(SQUARE, (9, 1), [("b", 1), ("ab", 1), ("aa", 1)])
        self.assertEqual(keeper.tree(), ("across", ("b", ("down", ("ab", "aa")))))

    def test_by_the_boxes_as_they_are_ahead_of_it(self):
        keeper = filled(box_of(0, 0, 10, 4), (BIG, 1), [("a", 1), ("b", 1)])
        self.assertEqual(keeper.boxes()["a"], box_of(0, 0, 5, 4))
        # With the new thing in the room, too, the box of a would be higher than wide.
        keeper.put("c", 1000)
        self.assertEqual(keeper.tree(), ("across", (("across", ("a", "c")), "b")))

    def test_forty_things_and_one_more(self):
        keeper = filled(WIDE, (5, 1), [(name, 3) for name in FORTY])
        before = told_by(keeper)
        self.assertEqual(sorted(before[2]), sorted(FORTY))
        for name in ("a", "zz", "abcdefgh"):
            with self.assertRaises(TooMany):
                keeper.put(name, 1)
        self.assertEqual(told_by(keeper), before)
        keeper.take(FORTY[7])
        keeper.put("zz", 1)
        self.assertEqual(len(keeper.boxes()), 40)
        with self.assertRaises(TooMany):
            keeper.put(FORTY[7], 1)


class Take(unittest.TestCase):
    def test_one_of_two(self):
        for gone, left in (("a", "b"), ("b", "a")):
            keeper = filled(WIDE, (9, 1), [("a", 1), ("b", 2)])
            self.assertEqual(keeper.take(gone), [])
            self.assertEqual(keeper.tree(), left)
            self.assertEqual(keeper.boxes(), {left: WIDE})

    def test_the_last_one(self):
        keeper = filled(WIDE, (9, 1), [("a", 1)])
        self.assertEqual(keeper.take("a"), [])
        self.assertEqual(told_by(keeper), (None, {}, {}))
        with self.assertRaises(Unknown):
            keeper.take("a")
        self.assertEqual(keeper.put("a", 5), [])
        self.assertEqual(told_by(keeper), ("a", {"a": WIDE}, {"a": 5}))

    def test_one_deep_within(self):
        things = [("a", 8), ("b", 7), ("c", 6), ("d", 5), ("e", 4)]
        keeper = filled(SQUARE, (99, 1), things)
        self.assertEqual(keeper.tree(), (
            "across", (("down", (("across", (("down", ("a", "e")), "d")), "c")), "b")))
        self.assertEqual(keeper.take("d"), [])
        self.assertEqual(keeper.tree(), ("across", (("down", (("down", ("a", "e")), "c")), "b")))
        self.assertEqual(keeper.take("c"), [])
        self.assertEqual(keeper.tree(), ("across", (("down", ("a", "e")), "b")))
        self.assertEqual(keeper.take("b"), [])
        self.assertEqual(keeper.tree(), ("down", ("a", "e")))

    def test_a_tree_in_the_place_of_the_two(self):
        keeper = filled(SQUARE, (99, 1), [("a", 8), ("b", 7), ("c", 6), ("d", 5)])
        self.assertEqual(keeper.tree(), ("across", (("down", (("across", ("a", "d")), "c")), "b")))
        keeper.take("b")
        self.assertEqual(keeper.tree(), ("down", (("across", ("a", "d")), "c")))


class Change(unittest.TestCase):
    def test_the_tree_stays(self):
        keeper = filled(SQUARE, (99, 1), [("a", 1), ("b", 1), ("c", 1)])
        tree = keeper.tree()
        self.assertEqual(keeper.change("c", 6), [])
        self.assertEqual(keeper.tree(), tree)
        self.assertEqual(keeper.weights(), {"a": 1, "b": 1, "c": 6})
        self.assertEqual(keeper.boxes()["b"], box_of((7, 8), 0, (1, 8), 1))

    def test_to_the_same_weight(self):
        keeper = filled(SQUARE, (3, 1), [("a", 1), ("b", 2), ("c", 1)])
        before = told_by(keeper)
        self.assertEqual(keeper.change("b", 2), [])
        self.assertEqual(told_by(keeper), before)

    def test_one_alone(self):
        keeper = filled(HIGH, (1, 1), [("a", 1)])
        self.assertEqual(keeper.change("a", BIG), [])
        self.assertEqual(told_by(keeper), ("a", {"a": HIGH}, {"a": BIG}))


class Mending(unittest.TestCase):
    def test_a_thing_alone_is_not_mended(self):
        keeper = filled(box_of(0, 0, 9, 1), (2, 1), [("a", 1)])
        self.assertEqual(keeper.tree(), "a")

    def test_so_great_a_most_that_nothing_is_mended(self):
        dice = random.Random(31)
        for room in (SQUARE, WIDE):
            keeper = Keeper(room, (BIG, 1))
            for deed, *rest in some_deeds(dice, 60, FORTY, 99):
                self.assertEqual(getattr(keeper, deed)(*rest), [])

    def test_a_shape_that_is_just_most_stays(self):
        keeper = filled(SQUARE, (3, 1), [("b", 1), ("a", 1), ("c", 1)])
        self.assertEqual(keeper.tree(), ("across", ("b", ("down", ("a", "c")))))
        self.assertEqual(shape(keeper.boxes()["b"]), (3, 1))
        keeper = filled(SQUARE, (299, 100), [("b", 1), ("a", 1), ("c", 1)])
        self.assertEqual(keeper.tree(), ("across", ("a", ("down", ("b", "c")))))

    def test_the_least_tree_around(self):
        keeper = filled(box_of(0, 0, 4, 2), (5, 2), [("a", 1), ("b", 1), ("c", 1), ("d", 1)])
        self.assertEqual(keeper.tree(), ("across", (("across", (("down", ("a", "d")), "c")), "b")))
        self.assertEqual(keeper.change("a", 2), [("a", "d")])
        self.assertEqual(keeper.tree(), ("across", (("across", (("across", ("a", "d")), "c")), "b")))
        self.assertEqual(keeper.boxes()["d"], box_of((8, 5), 0, (4, 5), 2))

    def test_the_next_tree_around(self):
        keeper = filled(box_of(0, 0, 4, 2), (5, 2), [("a", 4), ("b", 2), ("c", 2), ("d", 2)])
        self.assertEqual(keeper.tree(), ("across", (("across", (("across", ("a", "d")), "c")), "b")))
        # The two side by side anew would be as they are, with one far from square.
        self.assertEqual(keeper.change("d", 1), [("c", "d")])
        self.assertEqual(keeper.tree(), ("across", (("across", ("a", ("down", ("c", "d")))), "b")))

    def test_the_whole_tree(self):
        keeper = filled(box_of(0, 0, 4, 2), (2, 1), [("a", 1), ("b", 1), ("c", 1), ("d", 1)])
        self.assertEqual(keeper.tree(), ("across", (("across", (("down", ("a", "d")), "c")), "b")))
        self.assertEqual(keeper.change("a", 2), [("a", "d"), ("b", "c"), ("b", "d"), ("c", "d")])
        self.assertEqual(keeper.tree(), ("across", ("a", ("across", ("b", ("down", ("c", "d")))))))

    def test_one_tree_and_then_another(self):
        keeper = filled(box_of(0, 0, 4, 2), (5, 2), [("a", 3), ("b", 3), ("c", 2), ("d", 2)])
        self.assertEqual(keeper.tree(), ("across", (("across", (("down", ("a", "d")), "c")), "b")))
        # First the two of which a is one, then the three of which c is one.
        self.assertEqual(keeper.change("d", 6), [("a", "c"), ("a", "d")])
        self.assertEqual(keeper.tree(), ("across", (("across", ("d", ("down", ("a", "c")))), "b")))

    def test_the_whole_tree_in_any_case(self):
        keeper = filled(SQUARE, (2, 1), [("b", 1), ("a", 1), ("c", 1)])
        # One box is above most by thirds, too, and the mending is over all the same.
        self.assertEqual(keeper.tree(), ("across", ("a", ("down", ("b", "c")))))
        self.assertEqual(shape(keeper.boxes()["a"]), (3, 1))

    def test_the_whole_tree_by_thirds_behind_each_deed_where_most_is_nought_or_below(self):
        dice = random.Random(32)
        for most in ((0, 1), (-1, 1), (-BIG, 7), (1, 2)):
            keeper = Keeper(WIDE, most)
            for deed, *rest in some_deeds(dice, 40, list("abcdefghijk"), 9):
                getattr(keeper, deed)(*rest)
                names = sorted(keeper.weights())
                if names:
                    tree = thirds_tree(WIDE, [keeper.weights()[name] for name in names])
                    self.assertEqual(keeper.tree(), renamed(tree, names))

    def test_pairs_that_move(self):
        keeper = filled(SQUARE, (0, 1), [("c", 3), ("b", 2)])
        self.assertEqual(keeper.tree(), ("across", ("c", "b")))
        self.assertEqual(keeper.change("b", 4), [("b", "c")])
        self.assertEqual(keeper.tree(), ("across", ("b", "c")))
        # The new one is no thing that was there.
        self.assertEqual(keeper.put("a", 9), [("b", "c")])
        self.assertEqual(keeper.tree(), ("across", ("a", ("down", ("b", "c")))))
        self.assertEqual(keeper.take("a"), [("b", "c")])
        self.assertEqual(keeper.change("c", 4), [])


class WhoseThings(unittest.TestCase):
    def test_told_lists_and_dicts_may_be_changed(self):
        keeper = filled(SQUARE, (0, 1), [("c", 3), ("b", 2)])
        told = keeper.change("b", 4)
        self.assertEqual(told, [("b", "c")])
        before = told_by(keeper)
        told.clear()
        for deed in (keeper.boxes, keeper.weights):
            for _ in range(2):
                first = deed()
                first["b"] = None
                del first["c"]
                first["z"] = 1
                self.assertEqual(told_by(keeper), before)
        empty = Keeper(SQUARE, (3, 1))
        empty.weights()["a"] = 1
        empty.boxes()["a"] = SQUARE
        self.assertEqual(told_by(empty), (None, {}, {}))
        with self.assertRaises(Unknown):
            empty.take("a")

    def test_what_was_told_is_not_changed_later(self):
        keeper = filled(WIDE, (3, 1), [("a", 1), ("b", 2)])
        boxes, weights = keeper.boxes(), keeper.weights()
        kept = (dict(boxes), dict(weights))
        keeper.put("c", 9)
        keeper.change("a", 5)
        keeper.take("b")
        self.assertEqual((boxes, weights), kept)

    def test_two_keepers_know_nothing_of_one_another(self):
        one, other = Keeper(SQUARE, (3, 1)), Keeper(SQUARE, (3, 1))
        one.put("a", 1)
        self.assertEqual(told_by(other), (None, {}, {}))
        other.put("a", 2)
        self.assertEqual((one.weights(), other.weights()), ({"a": 1}, {"a": 2}))

    def test_the_same_deeds_are_told_the_same(self):
        deeds = list(some_deeds(random.Random(33), 40, list("abcdefg"), 30))
        keepers = [Keeper(WIDE, (3, 1)) for _ in range(2)]
        for deed, *rest in deeds:
            told = [getattr(keeper, deed)(*rest) for keeper in keepers]
            self.assertEqual(told[0], told[1])
        self.assertEqual(told_by(keepers[0]), told_by(keepers[1]))


class Refused(unittest.TestCase):
    def setUp(self):
        self.keeper = filled(WIDE, (3, 1), [("a", 5), ("abc", 2), ("xyz", 9)])
        self.before = told_by(self.keeper)

    def refuse(self, error, deed, *rest):
        with self.subTest(deed=deed, rest=rest):
            with self.assertRaises(error):
                getattr(self.keeper, deed)(*rest)
            self.assertEqual(told_by(self.keeper), self.before)

    def test_rooms_that_are_none(self):
        for thing in no_boxes():
            with self.subTest(room=thing), self.assertRaises(NoBox):
                Keeper(thing, (3, 1))

    def test_names_that_are_none(self):
        for name in NO_NAMES:
            for weight in [1, BIG] + NO_WEIGHT:
                self.refuse(NoName, "put", name, weight)

    def test_weights_that_are_none(self):
        for weight in NO_WEIGHT:
            # Ahead of Taken, too.
            for name in ("b", "a", "xyz"):
                self.refuse(NoWeights, "put", name, weight)
            self.refuse(NoWeights, "change", "a", weight)

    def test_names_that_are_taken(self):
        for name in ("a", "abc", "xyz"):
            for weight in (1, 5, BIG):
                self.refuse(Taken, "put", name, weight)

    def test_in_their_order_where_there_are_forty(self):
        self.keeper = filled(SQUARE, (9, 1), [(name, 1) for name in FORTY])
        self.before = told_by(self.keeper)
        self.refuse(NoName, "put", "A", 0)
        self.refuse(NoName, "put", None, None)
        self.refuse(NoName, "put", [], 1)
        self.refuse(NoWeights, "put", "new", 0)
        self.refuse(NoWeights, "put", FORTY[3], True)
        self.refuse(Taken, "put", FORTY[3], 1)
        self.refuse(TooMany, "put", "new", 1)

    def test_things_that_are_not_there(self):
        for name in NOT_THERE:
            self.refuse(Unknown, "take", name)
            for weight in [1, BIG] + NO_WEIGHT:
                self.refuse(Unknown, "change", name, weight)
        deep = []
        for _ in range(80):
            deep = [deep]
        for name in (deep, (deep,), tuple("abc")):
            self.refuse(Unknown, "take", name)
            self.refuse(NoName, "put", name, deep)
            self.refuse(NoWeights, "change", "a", name)

    def test_of_an_empty_keeper(self):
        self.keeper = Keeper(SQUARE, (3, 1))
        self.before = (None, {}, {})
        self.refuse(Unknown, "take", "a")
        self.refuse(Unknown, "change", "a", 1)
        self.refuse(Unknown, "change", None, None)
        self.refuse(NoName, "put", "", 1)
        self.refuse(NoWeights, "put", "a", 0)

    def test_names_of_each_length(self):
        for name in ("a", "z", "az", "abcdefg", "abcdefgh", "across", "down", "zzzzzzzz"):
            keeper = Keeper(SQUARE, (3, 1))
            keeper.put(name, 1)
            keeper.put("q", 1)
            self.assertEqual(keeper.tree(), ("across", (name, "q")))
            keeper.take(name)
            self.assertEqual(keeper.tree(), "q")


if __name__ == "__main__":
    unittest.main()
