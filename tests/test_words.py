"""Words, integers and numbers (0.3)."""

import unittest

from samples import ODD
from takenout.words import is_integer, is_number, is_word

WORDS = ("a", "z", "ab", "a0", "z9", "item", "x12345678901", "abcdefghijkl")
NO_WORDS = (
    "", "abcdefghijklm", "x123456789012", "0", "0a", "9z", "A", "aB", "Ab", "a_", "_a", "a-b",
    "a b", " a", "a ", "a\n", "\na", "a\t", "-", "a;", "{", "~", "`", "a/", "a:", "a@",
)


class TestWords(unittest.TestCase):
    def test_words(self):
        for value in WORDS:
            self.assertIs(is_word(value), True, value)

    def test_strings_that_are_none(self):
        for value in NO_WORDS:
            self.assertIs(is_word(value), False, value)

    def test_other_kinds(self):
        for value in ODD + (("a",), ["a"], ("a", "b"), {"a": 1}):
            self.assertIs(is_word(value), False, repr(value))

    def test_each_sign(self):
        letters = "abcdefghijklmnopqrstuvwxyz"
        for code in range(128):
            sign = chr(code)
            self.assertIs(is_word(sign), sign in letters)
            self.assertIs(is_word("a" + sign), sign in letters + "0123456789")
            self.assertIs(is_word("a" + sign + "b"), sign in letters + "0123456789")


class TestNumbers(unittest.TestCase):
    def test_integers(self):
        for value in (0, 1, -1, 7, 10 ** 39, -(10 ** 39)):
            self.assertIs(is_integer(value), True)
            self.assertIs(is_number(value), value >= 0)

    def test_no_integers(self):
        for value in (True, False, None, "", "0", "7", "a", (), (1,), [], [0], {}, {0: 0}):
            self.assertIs(is_integer(value), False, repr(value))
            self.assertIs(is_number(value), False, repr(value))


if __name__ == "__main__":
    unittest.main()
