"""Tests of shadowrow/errors.py: the classes and what they are under."""

import unittest

from shadowrow.errors import BadNumber, BadRow, BadSet, BadSize, SetsError


class ErrorsTest(unittest.TestCase):
    def test_sets_error_is_a_value_error(self):
        self.assertEqual(SetsError.__bases__, (ValueError,))

    def test_all_others_stand_straight_under_sets_error(self):
        for kind in (BadSet, BadSize, BadNumber, BadRow):
            with self.subTest(kind=kind.__name__):
                self.assertEqual(kind.__bases__, (SetsError,))

    def test_the_errors_are_told_apart(self):
        kinds = (BadSet, BadSize, BadNumber, BadRow)
        for kind in kinds:
            for other in kinds:
                if kind is not other:
                    self.assertFalse(issubclass(kind, other))

    def test_they_can_be_raised_and_caught_as_value_errors(self):
        for kind in (SetsError, BadSet, BadSize, BadNumber, BadRow):
            with self.assertRaises(ValueError):
                raise kind("why")


if __name__ == "__main__":
    unittest.main()
