"""Point [6]: an error has a message and is raised as RippleError."""

import unittest

from ripplewell import errors
from ripplewell.errors import RippleError


class RippleErrorTest(unittest.TestCase):
    def test_it_is_a_value_error_of_this_module(self):
        self.assertTrue(issubclass(RippleError, ValueError))
        self.assertEqual(RippleError.__module__, "ripplewell.errors")
        self.assertIn("RippleError", vars(errors))

    def test_message_is_what_it_was_made_with(self):
        for message in ("", "disposed", "too many nodes", "x" * 1000, "line\nline", "\u00e9"):
            error = RippleError(message)
            self.assertEqual(error.message, message)
            self.assertIs(type(error.message), str)
            self.assertEqual(str(error), message)

    def test_the_argument_is_called_message(self):
        error = RippleError(message="wrong kind")
        self.assertEqual((error.message, str(error)), ("wrong kind", "wrong kind"))

    def test_each_error_has_its_own_message(self):
        one = RippleError("one")
        two = RippleError("two")
        self.assertEqual((one.message, two.message), ("one", "two"))
        self.assertNotIn("message", vars(RippleError))

    def test_it_takes_exactly_one_message(self):
        with self.assertRaises(TypeError):
            RippleError()
        with self.assertRaises(TypeError):
            RippleError("one", "two")

    def test_it_is_caught_as_a_value_error(self):
        try:
            raise RippleError("running")
        except ValueError as error:
            self.assertIs(type(error), RippleError)
            self.assertEqual(error.message, "running")

    def test_it_is_caught_by_its_name_and_another_value_error_is_not(self):
        with self.assertRaises(RippleError) as caught:
            raise RippleError("root stays")
        self.assertEqual(caught.exception.message, "root stays")
        self.assertFalse(issubclass(ValueError, RippleError))


if __name__ == "__main__":
    unittest.main()
