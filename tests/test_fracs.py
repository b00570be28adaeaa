"""Point 5: fractions."""

import math
import random
import unittest
from fractions import Fraction

from samples import BIG, NO_PARTS, PRIME, pair
from weightrooms.errors import NoFraction
from weightrooms.fracs import added, fraction, greatest_of, is_fraction, is_less, lessened, over, times

FRACTIONS = [
    (0, 1), (1, 1), (-1, 1), (1, 2), (-1, 2), (2, 3), (-3, 2), (7, 1), (-12, 35), (6, 35),
    (BIG, 1), (1, BIG), (-1, BIG), (BIG, PRIME), (-PRIME, BIG), (PRIME, PRIME - 1),
]


class FractionCase(unittest.TestCase):
    def check(self, told, expected):
        """Hold a told fraction against a number of Python's own fractions."""
        self.assertIs(type(told), tuple)
        self.assertEqual([type(part) for part in told], [int, int])
        self.assertGreaterEqual(told[1], 1)
        self.assertEqual(math.gcd(told[0], told[1]), 1)
        self.assertEqual(told, pair(expected))


class Made(FractionCase):
    def test_written_out(self):
        rows = [
            (1, 2, (1, 2)), (2, 4, (1, 2)), (6, 3, (2, 1)), (-2, 4, (-1, 2)), (12, 18, (2, 3)), (5, 1, (5, 1)),
            (1, -2, (-1, 2)), (-1, -2, (1, 2)), (3, -3, (-1, 1)), (4, -6, (-2, 3)), (-7, -1, (7, 1)),
            (0, 1, (0, 1)), (0, 9, (0, 1)), (0, -9, (0, 1)), (0, BIG, (0, 1)), (0, -BIG, (0, 1)),
            (BIG, BIG, (1, 1)), (BIG, -BIG, (-1, 1)), (BIG, 1, (BIG, 1)), (1, -BIG, (-1, BIG)),
            (BIG, 9, (BIG // 9, 1)), (-BIG, 27, (-BIG // 27, 1)), (PRIME, BIG, (PRIME, BIG)),
        ]
        for top, bottom, expected in rows:
            with self.subTest(top=top, bottom=bottom):
                self.assertEqual(fraction(top, bottom), expected)
                self.check(fraction(top, bottom), Fraction(top, bottom))

    def test_all_small_ones(self):
        for top in range(-24, 25):
            for bottom in list(range(-24, 0)) + list(range(1, 25)):
                self.check(fraction(top, bottom), Fraction(top, bottom))

    def test_thirty_figures(self):
        dice = random.Random(5)
        for _ in range(300):
            top, bottom = dice.randint(-BIG, BIG), dice.choice((1, -1)) * dice.randint(1, BIG)
            self.check(fraction(top, bottom), Fraction(top, bottom))
            common = dice.randint(2, 10 ** 15)
            top, bottom = dice.randint(1, 10 ** 15) * common, dice.randint(1, 10 ** 15) * common
            self.check(fraction(top, bottom), Fraction(top, bottom))

    def test_a_bottom_of_nought_is_refused(self):
        for top in (0, 1, -1, 7, BIG, -BIG):
            with self.subTest(top=top), self.assertRaises(NoFraction):
                fraction(top, 0)


class Reckoned(FractionCase):
    def test_written_out(self):
        self.assertEqual(added((1, 2), (1, 3)), (5, 6))
        self.assertEqual(added((1, 6), (1, 3)), (1, 2))
        self.assertEqual(lessened((1, 2), (1, 3)), (1, 6))
        self.assertEqual(lessened((1, 3), (1, 2)), (-1, 6))
        self.assertEqual(times((-2, 3), (3, 4)), (-1, 2))
        self.assertEqual(over((1, 2), (-3, 4)), (-2, 3))
        self.assertEqual(over((-1, 2), (-3, 4)), (2, 3))

    def test_each_with_each(self):
        for one in FRACTIONS:
            for other in FRACTIONS:
                left, right = Fraction(*one), Fraction(*other)
                self.check(added(one, other), left + right)
                self.check(lessened(one, other), left - right)
                self.check(times(one, other), left * right)
                if other != (0, 1):
                    self.check(over(one, other), left / right)

    def test_with_the_opposite(self):
        for one in FRACTIONS:
            opposite = (-one[0], one[1])
            self.assertEqual(added(one, opposite), (0, 1))
            self.assertEqual(lessened(one, one), (0, 1))
            if one != (0, 1):
                self.assertEqual(over(one, opposite), (-1, 1))
                self.assertEqual(over(one, one), (1, 1))

    def test_with_nought(self):
        for one in FRACTIONS:
            self.assertEqual(added(one, (0, 1)), one)
            self.assertEqual(added((0, 1), one), one)
            self.assertEqual(lessened(one, (0, 1)), one)
            self.assertEqual(lessened((0, 1), one), (-one[0], one[1]))
            self.assertEqual(times(one, (0, 1)), (0, 1))
            self.assertEqual(times((0, 1), one), (0, 1))
            if one != (0, 1):
                self.assertEqual(over((0, 1), one), (0, 1))

    def test_division_by_nought_is_refused(self):
        for one in FRACTIONS:
            with self.subTest(one=one), self.assertRaises(NoFraction):
                over(one, (0, 1))

    def test_the_same_is_told_again(self):
        for deed in (added, lessened, times, over):
            self.assertEqual(deed((5, 6), (-7, 4)), deed((5, 6), (-7, 4)))

    def test_what_was_told_is_handed_in_again(self):
        # Past the figures that Python itself is willing to write out.
        told, expected = (BIG, PRIME), Fraction(BIG, PRIME)
        for _ in range(8):
            told, expected = times(told, told), expected * expected
        self.assertGreater(told[0].bit_length(), 20000)
        opposite = lessened((0, 1), told)
        self.assertTrue(added(told, told) == pair(expected + expected))
        self.assertTrue(added(told, opposite) == (0, 1))
        self.assertTrue(over(told, told) == (1, 1))
        self.assertTrue(fraction(told[1], -told[0]) == pair(-1 / expected))
        self.assertIs(is_less(opposite, told), True)
        self.assertIs(is_less(told, told), False)
        with self.assertRaises(NoFraction):
            over(told, (0, 1))
        with self.assertRaises(NoFraction):
            fraction(told[0], 0)


class Less(unittest.TestCase):
    def test_written_out(self):
        self.assertIs(is_less((1, 3), (1, 2)), True)
        self.assertIs(is_less((1, 2), (1, 3)), False)
        self.assertIs(is_less((-1, 2), (-1, 3)), True)
        self.assertIs(is_less((-1, 3), (-1, 2)), False)
        self.assertIs(is_less((1, 2), (1, 2)), False)
        self.assertIs(is_less((0, 1), (0, 1)), False)
        self.assertIs(is_less((-1, BIG), (0, 1)), True)

    def test_each_with_each(self):
        for one in FRACTIONS:
            for other in FRACTIONS:
                self.assertIs(is_less(one, other), Fraction(*one) < Fraction(*other), (one, other))


class Greatest(unittest.TestCase):
    def test_of_one_and_of_several(self):
        for one in FRACTIONS:
            self.assertEqual(greatest_of([one]), one)
        for at in range(len(FRACTIONS)):
            things = FRACTIONS[at:] + FRACTIONS[:at]
            self.assertEqual(greatest_of(things), (BIG, 1))
            self.assertEqual(greatest_of(things[:3]), pair(max(Fraction(*one) for one in things[:3])))
        self.assertEqual(greatest_of([(-1, 2), (-1, 3), (-2, 3)]), (-1, 3))


class Known(unittest.TestCase):
    def test_is_fraction(self):
        for one in FRACTIONS:
            self.assertIs(is_fraction(one), True, one)
        for thing in NO_PARTS + [0, 1, -BIG]:
            with self.subTest(thing=thing):
                self.assertIs(is_fraction(thing), False)


if __name__ == "__main__":
    unittest.main()
