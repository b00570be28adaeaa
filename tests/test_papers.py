"""Points 21 and 22: first cuts, and papers that bar."""

import random
import unittest
from fractions import Fraction

from samples import (
    BIG, MOST_THINGS, NO_KINDS, PRIME, SQUARE, WIDE, check_kind_refusals, moved_and_grown, nested_deep, number, pair,
    plain_shape, small_lists, with_part,
)
from weightrooms.errors import NoBox, NoKind, NoWeights, TooMany
from weightrooms.least import least_worst
from weightrooms.papers import first_cuts, paper_of, stands
from weightrooms.rooms import box_of, turned
from weightrooms.shapes import floor_of

ROOMS = [SQUARE, WIDE, box_of(0, 0, 1, 3)]

# None of these is a paper.
JUNK = [
    None, True, False, 0, 1, -1, BIG, "", "shape", "thin", "cases", b"shape", [], {}, set(), object(), (), ((),),
    ["shape"], ("shape", ()), ("shape", 0), ("shape", None), ("Shape",), ("shapes",), ("thin",), ("cases",),
    ("thin", None), ("thin", True), ("thin", False), ("thin", "0"), ("thin", -1), ("thin", 6), ("thin", BIG),
    ("thin", [0]), ("thin", (0,)), ("thin", (0, 1)), ("thin", 0, 0), ["thin", 0], (0, "thin"), ("Thin", 0), ("", 0),
    ("cases", ()), ("cases", None), ("cases", []), ("cases", 0), ("cases", "01"), ("cases", ((),)),
    ("cases", ((0, ("shape",)),)), ("cases", (), ()), ["cases", ()], (None, 0), (("shape",),), (("shape",), 0),
    (True, ()), (0, ("shape",)), (("thin", 0),), ("case", ()), {"cases": ()},
]


def expected_cuts(numbers, kind):
    """The first cuts, by sums of powers of two."""
    many = len(numbers)
    masks = [2 ** k - 1 for k in range(1, many)] if kind == "order" else range(1, 2 ** many - 1, 2)
    cuts = []
    for mask in masks:
        first = [thing for at, thing in enumerate(numbers) if mask >> at & 1]
        second = [thing for at, thing in enumerate(numbers) if not mask >> at & 1]
        cuts += [("across", first, second), ("down", first, second)]
    return cuts


def plain_parts(sides, weights, cut):
    """The sides of the two parts of a room by a cut."""
    way, first, second = cut
    share = Fraction(sum(weights[at] for at in first), sum(weights[at] for at in first + second))
    wide, high = sides
    if way == "across":
        return (wide * share, high), (wide * (1 - share), high)
    return (wide, high * share), (wide, high * (1 - share))


def plain_thin(sides, weights, numbers, at):
    """A thing's area over the square of the room's shorter side."""
    return sides[0] * sides[1] * weights[at] / sum(weights[k] for k in numbers) / min(sides) ** 2


def whole_number(thing):
    return type(thing) is int


def plain_stands(sides, weights, numbers, kind, bound, paper):
    """Whether a paper stands, reckoned plainly."""
    if type(paper) is not tuple or not paper:
        return False
    if paper[0] == "shape":
        return len(paper) == 1 and len(numbers) == 1 and plain_shape(*sides) >= bound
    if len(paper) != 2:
        return False
    if paper[0] == "thin":
        there = whole_number(paper[1]) and paper[1] in numbers
        return there and plain_thin(sides, weights, numbers, paper[1]) >= bound
    if paper[0] != "cases" or len(numbers) < 2 or type(paper[1]) is not tuple:
        return False
    cuts = expected_cuts(numbers, kind)
    if len(cuts) != len(paper[1]):
        return False
    for cut, row in zip(cuts, paper[1]):
        if type(row) is not tuple or len(row) != 2 or not whole_number(row[0]) or row[0] not in (0, 1):
            return False
        part = plain_parts(sides, weights, cut)[row[0]]
        if not plain_stands(part, weights, cut[1 + row[0]], kind, bound, row[1]):
            return False
    return True


def written(sides, weights, numbers, kind, bound, thin=False, last=False):
    """A paper that is written by the test itself, with thin ones or without, or None where there is none."""
    if len(numbers) == 1 and plain_shape(*sides) >= bound:
        return ("shape",)
    fitting = [at for at in numbers if thin and plain_thin(sides, weights, numbers, at) >= bound]
    if fitting:
        return ("thin", fitting[-1])
    if len(numbers) == 1:
        return None
    rows = []
    for cut in expected_cuts(numbers, kind):
        found = []
        for at in (1, 0) if last else (0, 1):
            part = plain_parts(sides, weights, cut)[at]
            paper = None if found else written(part, weights, cut[1 + at], kind, bound, thin, last)
            if paper is not None:
                found.append((at, paper))
        if not found:
            return None
        rows += found
    return ("cases", tuple(rows))


def small_asked():
    """Rooms, lists of weights and kinds, of each count of things."""
    for kind, most in MOST_THINGS.items():
        for many in range(1, most + 1):
            for room in ROOMS:
                for weights in small_lists(many):
                    yield room, weights, kind


def asked(room, weights, kind, bound):
    """What the plain reckoning asks for."""
    return (number(room[2]), number(room[3])), weights, list(range(len(weights))), kind, number(bound)


def hair(bound, step):
    """A bound that is more or less by a hair."""
    return pair(number(bound) + Fraction(step, BIG ** 3))


def bent(paper):
    """Papers bent at each place, none of which is a paper any more."""
    for junk in JUNK:
        yield junk
    yield list(paper)
    if paper[0] != "cases":
        return
    rows = paper[1]
    yield ("cases", list(rows))
    yield ("cases", rows[:-1])
    yield ("cases", rows[1:])
    yield ("cases", rows + rows[-1:])
    yield ("cases", rows[0])
    for at, (part, inner) in enumerate(rows):
        bad = [(2, inner), (-1, inner), (bool(part), inner), (None, inner), (str(part), inner), ((part,), inner)]
        bad += [[part, inner], (part,), (inner,), (inner, part), (part, inner, inner), inner, None, (), "01", part]
        for row in bad:
            yield ("cases", with_part(rows, at, row))
        for other in bent(inner) if at % 5 == 0 else [None, "shape"]:
            yield ("cases", with_part(rows, at, (part, other)))


class FirstCuts(unittest.TestCase):
    def test_of_two(self):
        for kind in MOST_THINGS:
            self.assertEqual(first_cuts([0, 1], kind), [("across", [0], [1]), ("down", [0], [1])])
            self.assertEqual(first_cuts([3, 7], kind), [("across", [3], [7]), ("down", [3], [7])])

    def test_of_three(self):
        self.assertEqual(first_cuts([0, 1, 2], "order"), [
            ("across", [0], [1, 2]), ("down", [0], [1, 2]), ("across", [0, 1], [2]), ("down", [0, 1], [2]),
        ])
        self.assertEqual(first_cuts([1, 4, 5], "any"), [
            ("across", [1], [4, 5]), ("down", [1], [4, 5]), ("across", [1, 4], [5]), ("down", [1, 4], [5]),
            ("across", [1, 5], [4]), ("down", [1, 5], [4]),
        ])

    def test_of_four_at_all(self):
        firsts = [first for way, first, _ in first_cuts([0, 1, 2, 3], "any") if way == "down"]
        self.assertEqual(firsts, [[0], [0, 1], [0, 2], [0, 1, 2], [0, 3], [0, 1, 3], [0, 2, 3]])

    def test_of_two_to_six(self):
        for kind in MOST_THINGS:
            for numbers in ([0, 1], [0, 1, 2], [2, 3, 5, 7], [0, 1, 2, 3, 4], [0, 2, 4, 6, 8], list(range(6)),
                            [1, 10, 100, BIG, BIG + 1, BIG * 5]):
                told = first_cuts(numbers, kind)
                self.assertEqual(told, expected_cuts(numbers, kind))
                self.assertEqual(len(told), 2 * (len(numbers) - 1 if kind == "order" else 2 ** (len(numbers) - 1) - 1))
                for way, first, second in told:
                    self.assertEqual((first, second), (sorted(first), sorted(second)))
                    self.assertEqual(sorted(first + second), numbers)
                    self.assertEqual([type(part) for part in (first, second)], [list, list])

    def test_the_lists_are_new_and_the_askers_own(self):
        for kind in MOST_THINGS:
            numbers = [0, 1, 2, 3]
            told = first_cuts(numbers, kind)
            self.assertEqual(numbers, [0, 1, 2, 3])
            lists = [part for cut in told for part in cut[1:]] + [told, numbers]
            self.assertEqual(len({id(part) for part in lists}), len(lists))
            for _, first, second in told[::2]:
                first.append(9)
                second.clear()
            self.assertEqual(told[1::2], expected_cuts([0, 1, 2, 3], kind)[1::2])
            self.assertEqual(first_cuts(numbers, kind), expected_cuts([0, 1, 2, 3], kind))

    def test_no_kind(self):
        for kind in NO_KINDS:
            for numbers in ([0, 1], [0, 1, 2, 3, 4, 5]):
                with self.subTest(kind=kind), self.assertRaises(NoKind):
                    first_cuts(numbers, kind)


class PaperOf(unittest.TestCase):
    def test_it_stands_with_the_least_worst_as_its_bound(self):
        for room, weights, kind in small_asked():
            bound = least_worst(room, weights, kind)[0]
            paper = paper_of(room, weights, kind)
            self.assertIs(stands(room, weights, kind, bound, paper), True)
            self.assertTrue(plain_stands(*asked(room, weights, kind, bound), paper), (room, weights, kind))

    def test_it_does_not_stand_with_a_greater_bound(self):
        for room, weights, kind in small_asked():
            bound = least_worst(room, weights, kind)[0]
            paper = paper_of(room, weights, kind)
            for greater in (hair(bound, 1), pair(number(bound) + 1), (BIG ** 50, 1)):
                self.assertIs(stands(room, weights, kind, greater, paper), False)

    def test_it_stands_with_a_lesser_bound(self):
        for room, weights, kind in small_asked():
            bound = least_worst(room, weights, kind)[0]
            paper = paper_of(room, weights, kind)
            for lesser in (hair(bound, -1), (1, 1), (1, BIG ** 50), (0, 1), (-BIG, 1)):
                self.assertIs(stands(room, weights, kind, lesser, paper), True)

    def test_of_rooms_moved_and_grown(self):
        for room, weights, kind in small_asked():
            if len(weights) < 5:
                paper = paper_of(moved_and_grown(room), [weight * 7 for weight in weights], kind)
                self.assertIs(stands(room, weights, kind, least_worst(room, weights, kind)[0], paper), True)

    def test_of_one_thing(self):
        for kind in MOST_THINGS:
            self.assertIn(paper_of(WIDE, [4], kind), [("shape",), ("thin", 0)])

    def test_the_weights_stay(self):
        for kind in MOST_THINGS:
            weights = [2, 7, 1, 8]
            paper = paper_of(WIDE, weights, kind)
            self.assertIs(stands(WIDE, weights, kind, (1, 1), paper), True)
            self.assertEqual(weights, [2, 7, 1, 8])

    def test_refusals_in_their_order(self):
        check_kind_refusals(self, paper_of)


class Stands(unittest.TestCase):
    def test_shape(self):
        for kind in MOST_THINGS:
            for room in (box_of(0, 0, 3, 1), box_of(5, 5, 1, 3)):
                for bound, told in (((3, 1), True), ((2, 1), True), (hair((3, 1), 1), False), ((4, 1), False)):
                    self.assertIs(stands(room, [5], kind, bound, ("shape",)), told)
                    self.assertIs(stands(room, [5], kind, bound, ("thin", 0)), told)
            # Of several things the room's own shape bars nothing.
            self.assertIs(stands(box_of(0, 0, 9, 1), [1, 1], kind, (1, 1), ("shape",)), False)

    def test_thin_of_several(self):
        room = box_of(0, 0, 4, 1)
        for kind in MOST_THINGS:
            self.assertIs(stands(room, [1, 7], kind, (7, 2), ("thin", 1)), True)
            self.assertIs(stands(room, [1, 7], kind, (7, 2), ("thin", 0)), False)
            self.assertIs(stands(room, [1, 7], kind, hair((7, 2), 1), ("thin", 1)), False)
            self.assertIs(stands(room, [1, 7], kind, (1, 2), ("thin", 0)), True)
            self.assertIs(stands(turned(room), [1, 1, 6], kind, (3, 1), ("thin", 2)), True)
            for number_not_there in (2, 3, -1, True, False, "1", None, (1,), BIG):
                self.assertIs(stands(room, [1, 7], kind, (0, 1), ("thin", number_not_there)), False)

    def test_thin_of_a_number_of_the_other_part(self):
        room = box_of(0, 0, 8, 1)
        rows = ((0, ("thin", 0)), (0, ("thin", 0)))
        self.assertIs(stands(room, [1, 1], "order", (1, 1), ("cases", rows)), True)
        for at in (0, 1):
            for row, told in (((0, ("thin", 1)), False), ((1, ("thin", 0)), False), ((1, ("thin", 1)), True)):
                paper = ("cases", with_part(rows, at, row))
                self.assertIs(stands(room, [1, 1], "order", (1, 1), paper), told)

    def test_thin_is_reckoned_of_the_parts_own_room(self):
        # Cut off at first, 1 and 2 have a room of one by two, of which 2 has three quarters.
        room, weights = box_of(0, 0, 3, 2), [8, 1, 3]
        for bound, told in ((number((3, 2)), True), (number((3, 2)) + 1, False)):
            rows = [(1, ("thin", 2)), (0, ("shape",)), (1, ("shape",)), (1, ("shape",))]
            sides, things = (number(room[2]), number(room[3])), [0, 1, 2]
            expected = plain_stands(sides, weights, things, "order", bound, ("cases", tuple(rows)))
            self.assertEqual(stands(room, weights, "order", pair(bound), ("cases", tuple(rows))), expected)
            self.assertEqual(expected, told)

    def test_cases_of_one_thing(self):
        for rows in ((), ((0, ("shape",)),), ((0, ("shape",)), (0, ("shape",)))):
            self.assertIs(stands(WIDE, [1], "any", (0, 1), ("cases", rows)), False)

    def test_papers_that_others_wrote(self):
        for room, weights, kind in small_asked():
            if len(weights) < 5:
                bound = least_worst(room, weights, kind)[0]
                for thin in (False, True):
                    for last in (False, True):
                        paper = written(*asked(room, weights, kind, bound), thin, last)
                        self.assertIs(stands(room, weights, kind, bound, paper), True)
                        self.assertIs(stands(room, weights, kind, hair(bound, 1), paper), False)

    def test_none_bars_what_some_tree_has(self):
        # No paper at all can be written for a bound above the least worst.
        for room, weights, kind in small_asked():
            if len(weights) < 5:
                bound = hair(least_worst(room, weights, kind)[0], 1)
                self.assertIsNone(written(*asked(room, weights, kind, bound), True))

    def test_a_thin_one_bars_up_to_the_floor(self):
        for room, weights, kind in small_asked():
            floor = floor_of(room, weights)
            paper = ("thin", weights.index(max(weights)))
            self.assertIs(stands(room, weights, kind, hair(floor, 1), paper), False)
            if number(floor) > 1:
                self.assertIs(stands(room, weights, kind, floor, paper), True)

    def test_papers_bent_at_any_place(self):
        for kind, weights in (("order", [2, 1, 1]), ("any", [1, 2, 1]), ("any", [3, 1, 2, 2]), ("order", [1, 2, 3, 4])):
            for room in (SQUARE, box_of(0, 0, 5, 4)):
                bound = least_worst(room, weights, kind)[0]
                for paper in (paper_of(room, weights, kind), written(*asked(room, weights, kind, bound))):
                    self.assertIs(stands(room, weights, kind, bound, paper), True)
                    for thing in bent(paper):
                        told = stands(room, weights, kind, bound, thing)
                        self.assertIs(told, plain_stands(*asked(room, weights, kind, bound), thing), thing)

    def test_rows_that_are_no_rows(self):
        room, weights = SQUARE, [1, 1]
        paper = ("cases", ((0, ("shape",)), (1, ("shape",))))
        self.assertIs(stands(room, weights, "any", (2, 1), paper), True)
        for row in (None, (), (0,), (True, ("shape",)), (False, ("shape",)), (2, ("shape",)), (-1, ("shape",)),
                    [0, ("shape",)], (0, ["shape"]), (0, ("shape",), 0), (0, "shape"), ("0", ("shape",)), 0, "0"):
            for at in (0, 1):
                self.assertIs(stands(room, weights, "any", (0, 1), ("cases", with_part(paper[1], at, row))), False)
        for rows in ((), paper[1][:1], paper[1] * 2, paper[1] + ((0, ("shape",)),), list(paper[1])):
            self.assertIs(stands(room, weights, "any", (0, 1), ("cases", rows)), False)
        self.assertIs(stands(room, weights, "any", (0, 1), list(paper)), False)
        self.assertIs(stands(room, weights, "any", (0, 1), ("CASES", paper[1])), False)

    def test_rows_and_parts_exchanged(self):
        dice = random.Random(22)
        told = []
        for kind, weights in (("order", [5, 1, 2, 2]), ("any", [5, 1, 2]), ("any", [1, 2, 3, 5])):
            bound = least_worst(WIDE, weights, kind)[0]
            paper = written(*asked(WIDE, weights, kind, bound), True)
            rows = paper[1]
            for _ in range(60):
                one, other = dice.sample(range(len(rows)), 2)
                thing = ("cases", with_part(with_part(rows, one, rows[other]), other, rows[one]))
                if dice.random() < 0.5:
                    thing = ("cases", with_part(rows, one, (1 - rows[one][0], rows[one][1])))
                told.append(stands(WIDE, weights, kind, bound, thing))
                self.assertIs(told[-1], plain_stands(*asked(WIDE, weights, kind, bound), thing))
        self.assertIn(True, told)
        self.assertGreater(told.count(False), 40)

    def test_a_paper_of_the_other_kind(self):
        weights = [5, 1, 2, 2]
        for kind, other in (("order", "any"), ("any", "order")):
            paper = written(*asked(WIDE, weights, kind, (1, 1)))
            self.assertIs(stands(WIDE, weights, kind, (1, 1), paper), True)
            self.assertIs(stands(WIDE, weights, other, (1, 1), paper), False)

    def test_anything_but_a_paper(self):
        for kind, most in MOST_THINGS.items():
            for many in range(2, most + 1):
                for thing in JUNK:
                    with self.subTest(kind=kind, many=many, thing=thing):
                        self.assertIs(stands(WIDE, [1] * many, kind, (0, 1), thing), False)

    def test_things_that_lie_deep_or_stand_at_many_places(self):
        wraps = [
            lambda inner: [inner], lambda inner: (inner,), lambda inner: ("cases", inner), lambda inner: (0, inner),
            lambda inner: ("cases", (inner, inner)), lambda inner: ("thin", inner), lambda inner: (inner, inner),
        ]
        for wrap in wraps:
            for kind in MOST_THINGS:
                self.assertIs(stands(WIDE, [1] * 5, kind, (0, 1), nested_deep(82, wrap)), False)
        paper = ("shape",)
        for _ in range(20):
            paper = ("cases", ((0, paper),) * 30)
        self.assertIs(stands(WIDE, [1] * 5, "any", (0, 1), paper), False)

    def test_bounds_of_many_figures(self):
        much = PRIME ** 300
        room = box_of(0, 0, much + 1, much)
        for bound, told in (((much + 1, much), True), ((much + 2, much + 1), True), ((much, much - 1), False)):
            self.assertIs(stands(room, [1], "any", bound, ("shape",)), told)
            self.assertIs(stands(room, [1], "order", bound, ("thin", 0)), told)

    def test_what_is_handed_in_stays(self):
        weights, paper = [1, 2], ["cases", [[0, ["shape"]]]]
        self.assertIs(stands(WIDE, weights, "any", (1, 1), paper), False)
        self.assertEqual((weights, paper), ([1, 2], ["cases", [[0, ["shape"]]]]))


class Refused(unittest.TestCase):
    def test_in_their_order_whatever_the_paper_is(self):
        for paper in (("shape",), None, paper_of(SQUARE, [1, 1], "any")):
            check_kind_refusals(self, lambda room, weights, kind: stands(room, weights, kind, (1, 1), paper))

    def test_written_out(self):
        for deed in (paper_of, lambda room, weights, kind: stands(room, weights, kind, (1, 1), ())):
            for kind in ("order", "all"):
                with self.assertRaises(NoBox):
                    deed(None, [0], kind)
                with self.assertRaises(NoWeights):
                    deed(SQUARE, [1] * 41 + [0], kind)
                with self.assertRaises(TooMany):
                    deed(SQUARE, [1] * 41, kind)
            with self.assertRaises(NoKind):
                deed(SQUARE, [1] * 7, "all")
            with self.assertRaises(TooMany):
                deed(SQUARE, [1] * 7, "order")
            with self.assertRaises(TooMany):
                deed(SQUARE, [1] * 6, "any")


if __name__ == "__main__":
    unittest.main()
