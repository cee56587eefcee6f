"""The errors of the interface."""

import unittest

from leapfolk import errors
from tests.samples import HUGE

PLAIN = ["NoYard", "NoStanding", "NoLeap", "NoRow", "NoVector", "NoReading", "NoWishes", "NoCell", "NoTable",
         "NoNumber"]
HOLDING = [("NoPerson", "person"), ("TooMany", "most")]


class Errors(unittest.TestCase):

    def test_base_stands_directly_below_valueerror(self):
        self.assertEqual(errors.FolkError.__bases__, (ValueError,))

    def test_each_error_stands_directly_below_the_base(self):
        for name in PLAIN + [name for name, _ in HOLDING]:
            with self.subTest(name):
                kind = getattr(errors, name)
                self.assertEqual(kind.__bases__, (errors.FolkError,))
                self.assertEqual(kind.__module__, "leapfolk.errors")
                self.assertEqual(kind.__name__, name)

    def test_no_argument_or_one_text(self):
        for name in PLAIN + ["FolkError"]:
            with self.subTest(name):
                kind = getattr(errors, name)
                self.assertEqual(str(kind()), "")
                self.assertEqual(str(kind("some words")), "some words")

    def test_value_by_position_and_by_name(self):
        values = [0, -3, True, None, "text", (), (1, [2]), [], {}, object(), HUGE * HUGE]
        for name, attribute in HOLDING:
            kind = getattr(errors, name)
            for value in values:
                with self.subTest(name):
                    self.assertIs(getattr(kind(value), attribute), value)
                    self.assertIs(getattr(kind(**{attribute: value}), attribute), value)

    def test_text_of_errors_with_a_value_can_be_read_whatever_the_value_is(self):
        for name, _ in HOLDING:
            for value in (3, None, HUGE * HUGE, [[]]):
                self.assertIsInstance(str(getattr(errors, name)(value)), str)

    def test_value_is_needed_and_only_one(self):
        for name, _ in HOLDING:
            with self.subTest(name):
                self.assertRaises(TypeError, getattr(errors, name))
                self.assertRaises(TypeError, getattr(errors, name), 1, 2)

    def test_errors_are_caught_by_name_and_by_base(self):
        with self.assertRaises(errors.NoPerson) as caught:
            raise errors.NoPerson(7)
        self.assertEqual(caught.exception.person, 7)
        with self.assertRaises(errors.FolkError) as caught:
            raise errors.TooMany(most=4)
        self.assertEqual(caught.exception.most, 4)
        with self.assertRaises(ValueError):
            raise errors.NoCell()


if __name__ == "__main__":
    unittest.main()
