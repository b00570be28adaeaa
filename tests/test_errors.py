"""Point 3 and the interface's errors."""

import inspect
import unittest

from weightrooms import errors

NAMES = [
    "NoFraction", "NoBox", "NoWay", "NoWeights", "TooMany", "NoTree", "NoRule", "NoKind",
    "NoName", "Taken", "Unknown", "NoThing", "NoCut", "NoText", "NoRow",
]


class ErrorClasses(unittest.TestCase):
    def test_the_base_is_a_value_error(self):
        self.assertEqual(errors.RoomError.__bases__, (ValueError,))

    def test_fifteen_stand_straight_under_the_base(self):
        for name in NAMES:
            with self.subTest(name):
                self.assertEqual(getattr(errors, name).__bases__, (errors.RoomError,))

    def test_none_stands_under_another(self):
        for name in NAMES:
            for other in NAMES:
                if name != other:
                    self.assertFalse(issubclass(getattr(errors, name), getattr(errors, other)), (name, other))

    def test_there_are_no_other_refusals(self):
        found = [name for name, value in vars(errors).items() if inspect.isclass(value)]
        self.assertEqual(sorted(found), sorted(NAMES + ["RoomError"]))

    def test_each_is_taken_as_a_refusal_and_as_a_value_error(self):
        for name in NAMES:
            words = [3, 5] if name == "NoCut" else "words"
            for kind in (getattr(errors, name), errors.RoomError, ValueError):
                with self.subTest(name, kind=kind), self.assertRaises(kind):
                    raise getattr(errors, name)(words)


class NoCutNumbers(unittest.TestCase):
    def test_the_field(self):
        self.assertEqual(errors.NoCut([0, 2, 5]).numbers, [0, 2, 5])

    def test_the_field_is_a_list_of_its_own(self):
        numbers = [1, 4]
        refusal = errors.NoCut(numbers)
        numbers.append(9)
        self.assertEqual(refusal.numbers, [1, 4])
        refusal.numbers.append(7)
        self.assertEqual(numbers, [1, 4, 9])


if __name__ == "__main__":
    unittest.main()
