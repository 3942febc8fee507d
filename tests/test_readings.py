"""Point [4]: readings, and when two of them are equal."""

import unittest

from ripplewell import readings
from ripplewell.readings import same

# No two of these are equal.
DIFFERENT = (
    [("value", thing) for thing in (None, False, True, 0, 1, 2, 999, "", "0", "1", "a", "none", "disposed", "x" * 40)]
    + [("absent",)]
    + [("keys", keys) for keys in ((), ("a",), ("b",), ("a", "b"), ("b", "a"), ("a", "b", "c"), ("ab",))]
    + [("error", text) for text in ("", "a", "disposed", "error a", "error ab", "None", "absent", "x" * 46)]
)


class SameTest(unittest.TestCase):
    def test_each_reading_equals_itself_alone(self):
        for at, one in enumerate(DIFFERENT):
            for to, two in enumerate(DIFFERENT):
                with self.subTest(one=one, two=two):
                    self.assertIs(same(one, two), at == to)

    def test_values_that_python_takes_for_equal_are_not(self):
        for one, two in ((True, 1), (False, 0)):
            self.assertEqual(("value", one), ("value", two))
            self.assertIs(same(("value", one), ("value", two)), False)
            self.assertIs(same(("value", two), ("value", one)), False)

    def test_the_order_of_the_keys_matters(self):
        self.assertIs(same(("keys", ("a", "b")), ("keys", ("b", "a"))), False)
        self.assertIs(same(("keys", ("a", "b")), ("keys", ("a", "b"))), True)

    def test_a_value_and_an_error_of_the_same_text_are_not_equal(self):
        self.assertIs(same(("value", "bad"), ("error", "bad")), False)
        self.assertIs(same(("value", None), ("absent",)), False)
        self.assertIs(same(("keys", ()), ("absent",)), False)

    def test_other_objects_with_the_same_content_are_equal(self):
        for one in DIFFERENT:
            two = tuple([tuple(list(part)) if isinstance(part, tuple) else part for part in one])
            self.assertIs(same(one, two), True)
        self.assertIs(same(("value", "".join(["a", "b"])), ("value", "ab")), True)

    def test_names_and_home(self):
        self.assertIs(same(one=("absent",), two=("absent",)), True)
        self.assertEqual(same.__module__, "ripplewell.readings")
        self.assertIs(vars(readings)["same"], same)


if __name__ == "__main__":
    unittest.main()
