"""Promise [4]: the errors."""

import unittest

from givesifgets import errors
from tests.plain import ODD_VALUES

WITH_ARGUMENT = ("InvalidRegistry", "InvalidText", "InvalidPlan", "InvalidDeed", "InvalidLog", "InvalidQuestion",
                 "Refused")


class Errors(unittest.TestCase):
    def test_bases(self):
        self.assertEqual(errors.GiveError.__bases__, (ValueError,))
        for name in WITH_ARGUMENT + ("InvalidCommand",):
            self.assertEqual(getattr(errors, name).__bases__, (errors.GiveError,), name)
            self.assertEqual(getattr(errors, name).__module__, "givesifgets.errors")

    def test_argument_is_kept(self):
        for name in WITH_ARGUMENT:
            for value in ODD_VALUES:
                self.assertIs(getattr(errors, name)(value).at, value)
                self.assertIs(getattr(errors, name)(at=value).at, value)
            with self.assertRaises(TypeError):
                getattr(errors, name)()

    def test_objects_are_apart(self):
        one, other = errors.Refused(1), errors.Refused(2)
        self.assertEqual((one.at, other.at), (1, 2))

    def test_no_argument(self):
        error = errors.InvalidCommand()
        self.assertIsInstance(error, errors.GiveError)
        self.assertFalse(hasattr(error, "at"))

    def test_caught_by_the_base(self):
        for name in WITH_ARGUMENT:
            with self.assertRaises(errors.GiveError) as caught:
                raise getattr(errors, name)(7)
            self.assertEqual(caught.exception.at, 7)
        with self.assertRaises(ValueError):
            raise errors.InvalidCommand()

    def test_equal_nothing_of_another_kind(self):
        for value in ODD_VALUES:
            self.assertFalse(errors.Refused(1) == value)
