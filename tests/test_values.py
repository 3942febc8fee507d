"""Points [2] and [3]: values, keys, equality, texts and emptiness."""

import copy
import string
import unittest

from ripplewell import values
from ripplewell.values import equal, is_empty, is_key, is_value, text_of

# No two of these are equal values.
DIFFERENT_VALUES = [
    None, False, True, 0, 1, 2, 10, 998, 999,
    "", "0", "1", "00", "999", "a", "A", "b", "aa", " ", " a", "a ", "a\n",
    "none", "None", "false", "False", "true", "True", "\u00e9", "e\u0301",
    "x" * 39, "x" * 40,
]

EMPTY_VALUES = [None, False, 0, ""]


class Plain:
    pass


class EqualToAll:
    def __eq__(self, other):
        return True

    def __ne__(self, other):
        return False

    __hash__ = None


def fail(*_):
    raise RuntimeError("this was asked of an object that is no value")


class Hostile:
    __eq__ = __ne__ = __lt__ = __le__ = __gt__ = __ge__ = fail
    __hash__ = __bool__ = __len__ = __iter__ = __int__ = __index__ = fail
    __str__ = __repr__ = __format__ = __contains__ = __getitem__ = fail


class HostileClass:
    @property
    def __class__(self):
        raise RuntimeError("the class of this object was asked for")


class HostileText(str):
    __eq__ = __ne__ = __lt__ = __le__ = __gt__ = __ge__ = fail
    __hash__ = __len__ = __iter__ = __contains__ = __getitem__ = fail
    __str__ = __repr__ = fail


class HostileNumber(int):
    __eq__ = __ne__ = __lt__ = __le__ = __gt__ = __ge__ = fail
    __hash__ = __bool__ = __int__ = __index__ = __str__ = __repr__ = fail


class HostileList(list):
    __eq__ = __ne__ = __len__ = __iter__ = __contains__ = fail


def things_of_other_kinds():
    """Things that are neither values nor keys, whatever they contain."""
    return [
        (), (1,), ("a",), ("value", 1), (None,),
        [], [0], ["a", "b"], [None],
        {}, {"a": 1}, {1: "a"}, set(), {"a"}, frozenset(), frozenset("a"),
        b"", b"a", b"abc", bytearray(b"a"), memoryview(b"a"),
        0.0, 1.0, 5.5, float("nan"), float("inf"), 1j,
        range(3), slice(1), iter([]), object(), Ellipsis, NotImplemented,
        Plain(), EqualToAll(), Hostile(), HostileClass(), HostileList(),
        Plain, int, str, bool, type, type(None), ValueError("a"),
        len, is_value, lambda: 1, "a".upper, unittest,
    ]


class IsValueTest(unittest.TestCase):
    def assert_answers(self, thing, expected):
        self.assertIs(is_value(thing), expected)

    def test_none_and_bools_are_values(self):
        for thing in (None, False, True):
            self.assert_answers(thing, True)

    def test_integers_from_0_to_999_are_values(self):
        for thing in range(1000):
            self.assert_answers(thing, True)

    def test_other_integers_are_not(self):
        for thing in (-1, -2, -999, -1000, 1000, 1001, 9999, 2 ** 31, -2 ** 63, 2 ** 64,
                      10 ** 5000, -10 ** 5000):
            self.assert_answers(thing, False)

    def test_strings_of_at_most_40_characters_are_values(self):
        for length in range(41):
            self.assert_answers("x" * length, True)
            self.assert_answers("\u00e9" * length, True)
            self.assert_answers("\U0001f600" * length, True)
            self.assert_answers("\n" * length, True)

    def test_longer_strings_are_not(self):
        for length in (41, 42, 80, 1000, 100000):
            self.assert_answers("x" * length, False)
            self.assert_answers(" " * length, False)
            self.assert_answers("\U0001f600" * length, False)

    def test_strings_of_any_characters_are_values(self):
        for thing in ("\x00", "\ud800", "none", "-1", "1000", "A b_9", "\\"):
            self.assert_answers(thing, True)

    def test_things_of_other_kinds_are_not(self):
        for thing in things_of_other_kinds():
            self.assert_answers(thing, False)

    def test_objects_that_raise_whatever_is_asked_of_them(self):
        for thing in (HostileText("a"), HostileText("a" * 50), HostileNumber(1), HostileNumber(5000)):
            self.assertIs(type(is_value(thing)), bool)


class IsKeyTest(unittest.TestCase):
    def assert_answers(self, thing, expected):
        self.assertIs(is_key(thing), expected)

    def test_strings_of_1_to_8_letters_are_keys(self):
        for letter in string.ascii_lowercase:
            for length in range(1, 9):
                self.assert_answers(letter * length, True)
        for thing in ("a", "z", "az", "abcdefgh", "stuvwxyz", "ijklmnop", "qr"):
            self.assert_answers(thing, True)

    def test_strings_of_other_lengths_are_not(self):
        self.assert_answers("", False)
        for length in (9, 10, 40, 41, 100000):
            self.assert_answers("a" * length, False)

    def test_each_other_ascii_character_is_barred_at_every_place(self):
        for sign in map(chr, range(128)):
            if sign in string.ascii_lowercase:
                continue
            for thing in (sign, "a" + sign, sign + "a", "ab" + sign + "cd", "abcdefg" + sign):
                self.assert_answers(thing, False)

    def test_letters_beyond_ascii_are_barred(self):
        for sign in ("\u00e9", "\u00df", "\u00aa", "\u0131", "\u03b1", "\u0430", "\uff41", "\u2170",
                     "\u4e00", "\U0001d41a", "e\u0301", "\u00a0", "\u200b", "\u00b2"):
            for thing in (sign, "a" + sign, sign + "a", "ab" + sign + "cd"):
                self.assert_answers(thing, False)

    def test_a_line_feed_at_the_end_is_barred(self):
        for thing in ("a\n", "abcdefg\n", "abcdefgh\n", "\n", "a\r", "a\r\n", "a\x00"):
            self.assert_answers(thing, False)

    def test_capital_letters_digits_blanks_and_underscores_are_barred(self):
        for thing in ("A", "Ab", "aB", "Z", "a1", "1", "0", "a b", " a", "a ", " ", "_", "_a", "a_b", "a-b"):
            self.assert_answers(thing, False)

    def test_things_that_are_no_strings_are_not(self):
        for thing in (None, False, True, 0, 1, 5, 999, -1, 10 ** 5000):
            self.assert_answers(thing, False)
        for thing in things_of_other_kinds():
            self.assert_answers(thing, False)

    def test_objects_that_raise_whatever_is_asked_of_them(self):
        for thing in (HostileText("a"), HostileText(""), HostileText("A"), HostileNumber(1)):
            self.assertIs(type(is_key(thing)), bool)


class EqualTest(unittest.TestCase):
    def test_each_value_equals_itself_alone(self):
        for at, one in enumerate(DIFFERENT_VALUES):
            for to, two in enumerate(DIFFERENT_VALUES):
                with self.subTest(one=one, two=two):
                    self.assertIs(equal(one, two), at == to)

    def test_bools_are_no_integers(self):
        self.assertIs(equal(True, 1), False)
        self.assertIs(equal(1, True), False)
        self.assertIs(equal(False, 0), False)
        self.assertIs(equal(0, False), False)

    def test_none_equals_none_alone(self):
        self.assertIs(equal(None, None), True)
        for value in DIFFERENT_VALUES[1:]:
            self.assertIs(equal(None, value), False)
            self.assertIs(equal(value, None), False)

    def test_a_number_and_its_text_are_not_equal(self):
        for number in range(1000):
            self.assertIs(equal(number, str(number)), False)
            self.assertIs(equal(str(number), number), False)

    def test_other_objects_with_the_same_content_are_equal(self):
        for number in range(1000):
            self.assertIs(equal(number, int(str(number))), True)
        for text in ("ab cd", "x" * 40, "\u00e9\u00e8"):
            self.assertIs(equal(text, "".join(list(text))), True)

    def test_case_and_blanks_matter(self):
        self.assertIs(equal("a", "A"), False)
        self.assertIs(equal("a", "a "), False)
        self.assertIs(equal("", " "), False)


class TextOfTest(unittest.TestCase):
    def test_none_and_bools(self):
        self.assertEqual(text_of(None), "none")
        self.assertEqual(text_of(False), "false")
        self.assertEqual(text_of(True), "true")

    def test_integers_have_their_decimal_digits(self):
        for number, text in ((0, "0"), (1, "1"), (9, "9"), (10, "10"), (99, "99"), (100, "100"), (999, "999")):
            self.assertEqual(text_of(number), text)
        self.assertEqual([int(text_of(number)) for number in range(1000)], list(range(1000)))

    def test_strings_are_their_own_text(self):
        for text in ("", "a", "None", "TRUE", "007", " x ", "'", '"', "a\nb", "\\n", "\u00e9", "x" * 40):
            self.assertEqual(text_of(text), text)

    def test_the_answer_is_a_string(self):
        for value in DIFFERENT_VALUES:
            self.assertIs(type(text_of(value)), str)


class IsEmptyTest(unittest.TestCase):
    def test_the_four_empty_values(self):
        for value in EMPTY_VALUES:
            self.assertIs(is_empty(value), True)

    def test_all_others_are_not_empty(self):
        for value in (True, " ", "\n", "0", "none", "false", "a", "\x00", "x" * 40):
            self.assertIs(is_empty(value), False)
        for number in range(1, 1000):
            self.assertIs(is_empty(number), False)


class ArgumentsTest(unittest.TestCase):
    def test_arguments_are_not_modified(self):
        for thing in ([1, "a", [2]], {"a": [1], "b": {"c": 2}}, (1, [2]), {"a", "b"}, bytearray(b"ab")):
            before = copy.deepcopy(thing)
            is_value(thing)
            is_key(thing)
            self.assertEqual(thing, before)

    def test_iterators_are_not_used_up(self):
        letters = iter("abc")
        is_value(letters)
        is_key(letters)
        self.assertEqual(list(letters), ["a", "b", "c"])

    def test_the_names_and_places_of_the_arguments(self):
        self.assertIs(is_value(thing=1), True)
        self.assertIs(is_key(thing="a"), True)
        self.assertIs(equal(one=1, two=2), False)
        self.assertEqual(text_of(value=None), "none")
        self.assertIs(is_empty(value=0), True)

    def test_each_function_is_defined_in_this_module(self):
        for function in (is_value, is_key, equal, text_of, is_empty):
            self.assertEqual(function.__module__, "ripplewell.values")
            self.assertIs(vars(values)[function.__name__], function)


if __name__ == "__main__":
    unittest.main()
