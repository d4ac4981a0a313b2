"""Lexemes (S1.4)."""

import itertools
import re
import unittest

from samples import raised
from takenout.errors import BadText
from takenout.lexemes import lexemes


def place_of(text):
    """The place with which lexemes refuses a text."""
    return raised(BadText, lexemes, text).place


def plain_lexemes(text):
    """The lexemes of a text and the place of the first sign that begins none, or None."""
    found, at = [], 0
    while at < len(text):
        match = re.compile(r"[ \n]+|(?P<word>[a-z][a-z0-9]*)|(?P<number>0|[1-9][0-9]*)|(?P<sign>[{};])").match(text, at)
        if match is None or len(match.group("word") or "") > 12:
            return found, at
        if match.lastgroup:
            found.append((match.lastgroup, match.group(), at))
        at = match.end()
    return found, None


class TestSorts(unittest.TestCase):
    def test_each_sort_with_its_place(self):
        self.assertEqual(lexemes("book behind{ item a1 costs 120;}"), [
            ("word", "book", 0), ("word", "behind", 5), ("sign", "{", 11), ("word", "item", 13),
            ("word", "a1", 18), ("word", "costs", 21), ("number", "120", 27), ("sign", ";", 30),
            ("sign", "}", 31),
        ])

    def test_longest(self):
        self.assertEqual(lexemes("12ab"), [("number", "12", 0), ("word", "ab", 2)])
        self.assertEqual(lexemes("ab12"), [("word", "ab12", 0)])
        self.assertEqual(lexemes("1a2b"), [("number", "1", 0), ("word", "a2b", 1)])
        self.assertEqual(lexemes("10"), [("number", "10", 0)])
        self.assertEqual(lexemes("1002003"), [("number", "1002003", 0)])

    def test_zeros(self):
        self.assertEqual(lexemes("007"), [("number", "0", 0), ("number", "0", 1), ("number", "7", 2)])
        self.assertEqual(lexemes("0a"), [("number", "0", 0), ("word", "a", 1)])
        self.assertEqual(lexemes("010"), [("number", "0", 0), ("number", "10", 1)])
        self.assertEqual(lexemes("0"), [("number", "0", 0)])

    def test_signs_by_themselves(self):
        self.assertEqual(lexemes("{{;}"), [
            ("sign", "{", 0), ("sign", "{", 1), ("sign", ";", 2), ("sign", "}", 3),
        ])

    def test_long_numbers(self):
        for digits in ("1" * 41, "9" * 5000, "1" + "0" * 12000):
            self.assertEqual(lexemes(digits + "a"), [("number", digits, 0), ("word", "a", len(digits))])


class TestWords(unittest.TestCase):
    def test_of_12_and_of_13_signs(self):
        for word in ("abcdefghijkl", "a12345678901", "a" * 12):
            self.assertEqual(lexemes(word), [("word", word, 0)])
            self.assertEqual(lexemes(word + ";"), [("word", word, 0), ("sign", ";", 12)])
            self.assertEqual(place_of(word + "m"), 0)
            self.assertEqual(place_of(word + "0"), 0)
            self.assertEqual(place_of("{ " + word + "z }"), 2)

    def test_behind_a_number(self):
        self.assertEqual(lexemes("1abcdefghijkl"), [("number", "1", 0), ("word", "abcdefghijkl", 1)])
        self.assertEqual(place_of("1abcdefghijklm"), 1)

    def test_much_too_long(self):
        self.assertEqual(place_of("a " + "b" * 19000), 2)


class TestGaps(unittest.TestCase):
    def test_none_at_all(self):
        self.assertEqual(lexemes(""), [])
        self.assertEqual(lexemes(" \n \n\n"), [])

    def test_everywhere(self):
        self.assertEqual(lexemes("\n a\n\nb ;"), [("word", "a", 2), ("word", "b", 5), ("sign", ";", 7)])
        self.assertEqual(lexemes("a b  \n"), [("word", "a", 0), ("word", "b", 2)])
        self.assertEqual(lexemes("1 2"), [("number", "1", 0), ("number", "2", 2)])
        self.assertEqual(lexemes("a\nb"), [("word", "a", 0), ("word", "b", 2)])


class TestNoLexeme(unittest.TestCase):
    def test_each_sign(self):
        for code in range(32, 127):
            sign = chr(code)
            if sign == " " or sign.islower() or sign.isdigit() or sign in "{};":
                self.assertEqual(len(lexemes(sign)), 0 if sign == " " else 1)
            else:
                self.assertEqual(place_of(sign), 0, sign)
                self.assertEqual(place_of("a" + sign), 1, sign)
                self.assertEqual(place_of(" 7\n" + sign + "b"), 3, sign)

    def test_tab(self):
        self.assertEqual(place_of("\t"), 0)
        self.assertEqual(place_of("a \tb"), 2)

    def test_minus_and_capitals(self):
        self.assertEqual(place_of("-1"), 0)
        self.assertEqual(place_of("item a costs -1"), 13)
        self.assertEqual(place_of("Book"), 0)
        self.assertEqual(place_of("boOk"), 2)

    def test_first_of_several(self):
        self.assertEqual(place_of("a - + \t"), 2)
        self.assertEqual(place_of("abcdefghijklm $"), 0)
        self.assertEqual(place_of("$ abcdefghijklm"), 0)


class TestAgainstPlain(unittest.TestCase):
    def test_all_short_texts(self):
        for size in range(5):
            for signs in itertools.product("a0 1\n;{$", repeat=size):
                text = "".join(signs)
                found, stop = plain_lexemes(text)
                if stop is None:
                    self.assertEqual(lexemes(text), found)
                else:
                    self.assertEqual(place_of(text), stop)

    def test_new_each_time(self):
        first = lexemes("a 1 ;")
        again = list(first)
        first.clear()
        self.assertEqual(lexemes("a 1 ;"), again)
        self.assertEqual({one.__class__ for one in again}, {tuple})


if __name__ == "__main__":
    unittest.main()
