import unittest

from rulesquares import errors
from rulesquares.errors import SquareError

KINDS = [
    "InvalidSize", "InvalidCell", "InvalidNumber", "InvalidTurn",
    "Taken", "NoRule", "NothingToUndo", "Unreadable",
]


class ErrorTree(unittest.TestCase):
    def test_square_error_is_a_value_error(self):
        self.assertEqual(SquareError.__bases__, (ValueError,))

    def test_each_kind_is_directly_below_square_error(self):
        for name in KINDS:
            with self.subTest(name):
                self.assertEqual(getattr(errors, name).__bases__, (SquareError,))

    def test_classes_are_defined_in_errors(self):
        for name in ["SquareError"] + KINDS:
            with self.subTest(name):
                self.assertEqual(getattr(errors, name).__module__, "rulesquares.errors")


class ErrorValue(unittest.TestCase):
    def test_value_is_stored_itself(self):
        values = [0, -7, 10 ** 60, "text", "", None, True, (1, 2), [1, [2]], {}, object()]
        for name in ["SquareError"] + KINDS:
            kind = getattr(errors, name)
            for value in values:
                with self.subTest(name=name, value=value):
                    self.assertIs(kind(value).value, value)
                    self.assertIs(kind(value=value).value, value)

    def test_a_list_that_changes_later_is_still_the_value(self):
        told = [1]
        error = SquareError(told)
        told.append(2)
        self.assertEqual(error.value, [1, 2])

    def test_takes_just_one_argument(self):
        for name in ["SquareError"] + KINDS:
            kind = getattr(errors, name)
            with self.subTest(name):
                with self.assertRaises(TypeError):
                    kind()
                with self.assertRaises(TypeError):
                    kind(1, 2)

    def test_is_caught_as_each_class_above(self):
        for name in KINDS:
            for above in (SquareError, ValueError):
                with self.subTest(name=name, above=above):
                    with self.assertRaises(above) as caught:
                        raise getattr(errors, name)("x")
                    self.assertEqual(caught.exception.value, "x")
