"""Texts of scripts, and their wrong places (S3.4, with S1.4 and S1.5)."""

import itertools
import random
import unittest

from samples import Untouched
from test_booktexts import NAME, Texts, place_of
from test_lexemes import plain_lexemes
from takenout.scripttexts import read_script, script_text

SCRIPT = [("b", None), ("a", "d")]
TEXT = "script {\nput b first;\nput a behind d;\n}\n"
FORM = f"script {{ (put {NAME}(behind {NAME}|first ); )*}} "
ENDS = ("script { } ", "{ } ", "} ", "", "a first ; } ", "first ; } ", "a ; } ", "; } ")
SCRIPTS = (FORM, ENDS, read_script)
LEXEMES = ("script", "{", "}", ";", "put", "behind", "first", "a", "b9", "0", "12")


def drawn_scripts(count, seed):
    """Drawn lists of pairs of words, words of the form and one word twice among them."""
    draw = random.Random(seed)
    words = ("a", "b9", "abcdefghijkl", "put", "behind", "first", "script")
    for _ in range(count):
        yield [(draw.choice(words), draw.choice(words + (None, None))) for _ in range(draw.randrange(5))]


class TestWritten(unittest.TestCase):
    def test_examples(self):
        self.assertEqual(script_text(SCRIPT), TEXT)
        self.assertEqual(script_text(tuple(SCRIPT)), TEXT)
        self.assertEqual(script_text([]), "script {\n}\n")
        self.assertEqual(script_text(()), "script {\n}\n")

    def test_words_of_the_form_as_names(self):
        script = [("first", None), ("behind", "first"), ("put", "behind"), ("script", "put")]
        text = (
            "script {\nput first first;\nput behind behind first;\nput put behind behind;\n"
            "put script behind put;\n}\n"
        )
        self.assertEqual(script_text(script), text)
        self.assertEqual(read_script(text), script)

    def test_plain_string(self):
        self.assertIs(script_text(SCRIPT).__class__, str)


class TestReadBack(unittest.TestCase):
    def test_examples(self):
        self.assertEqual(read_script(TEXT), SCRIPT)
        self.assertEqual(read_script("script {\n}\n"), [])

    def test_first_as_a_name(self):
        self.assertEqual(read_script("script { put first first ; }"), [("first", None)])
        self.assertEqual(read_script("script { put first behind first ; }"), [("first", "first")])
        self.assertEqual(read_script("script { put behind first ; }"), [("behind", None)])
        self.assertEqual(read_script("script { put behind behind behind ; }"), [("behind", "behind")])

    def test_one_word_twice(self):
        self.assertEqual(read_script("script{put a behind a;}"), [("a", "a")])
        self.assertEqual(script_text([("a", "a")]), "script {\nput a behind a;\n}\n")

    def test_drawn(self):
        for script in drawn_scripts(200, seed=40):
            self.assertEqual(read_script(script_text(script)), script)

    def test_any_gaps(self):
        draw = random.Random(41)
        for script in drawn_scripts(100, seed=42):
            found, _ = plain_lexemes(script_text(script))
            text = draw.choice(["", " ", "\n"])
            for _, lexeme, _ in found:
                gaps = [" ", "\n", " \n  ", "\n\n"] + ([""] if text.endswith((";", "{", "}")) else [])
                text += draw.choice(gaps) + lexeme
            self.assertEqual(read_script(text + draw.choice(["", " ", "\n \n"])), script)

    def test_400_deeds(self):
        script = SCRIPT * 200
        self.assertEqual(read_script(script_text(script)), script)


class TestWrongPlaces(Texts):
    SAMPLES = (
        "script { put a first ; put first behind b9 ; }",
        "script { put behind behind first ; }",
        "script { put put first ; put a behind a ; }",
        "script { }",
    )

    def test_told(self):
        self.assertEqual(place_of(read_script, "script { put a first first ; }"), 21)
        self.assertEqual(place_of(read_script, "script { put a behind ; }"), 22)
        self.assertEqual(place_of(read_script, "script { put a ; }"), 15)
        self.assertEqual(place_of(read_script, "script { put ; }"), 13)
        self.assertEqual(place_of(read_script, "script { put a put ; }"), 15)
        self.assertEqual(place_of(read_script, "script { a first ; }"), 9)
        self.assertEqual(place_of(read_script, "script { put a first }"), 21)
        self.assertEqual(place_of(read_script, "script { put a behind b c ; }"), 24)
        self.assertEqual(place_of(read_script, "script ; }"), 7)
        self.assertEqual(place_of(read_script, "order { }"), 0)

    def test_each_wrong_lexeme_at_each_place(self):
        for text in self.SAMPLES:
            row = text.split(" ")
            for at in range(len(row) + 1):
                for lexeme in LEXEMES + ("$", "abcdefghijklm", "A", "\t"):
                    self.check_place(SCRIPTS, " ".join(row[:at] + [lexeme] + row[at + 1:]))
                    self.check_place(SCRIPTS, " ".join(row[:at] + [lexeme] + row[at:]))
                self.check_place(SCRIPTS, " ".join(row[:at] + row[at + 1:]))

    def test_text_that_ends_too_early(self):
        for text in self.SAMPLES:
            for end in range(len(text)):
                self.check_place(SCRIPTS, text[:end])
                self.check_place(SCRIPTS, text[:end] + " \n ")
        self.assertEqual(place_of(read_script, ""), 0)
        self.assertEqual(place_of(read_script, "\n "), 2)
        self.assertEqual(place_of(read_script, "script { put a behind \n"), 23)
        self.assertEqual(place_of(read_script, "script { put a first ;"), 22)

    def test_more_behind_the_end(self):
        self.assertEqual(place_of(read_script, "script { } }"), 11)
        self.assertEqual(place_of(read_script, "script { }\n$"), 11)
        self.assertEqual(place_of(read_script, "script { } script { }"), 11)

    def test_sign_that_begins_no_lexeme(self):
        self.assertEqual(place_of(read_script, "script { put $ first ;"), 13)
        self.assertEqual(place_of(read_script, "script { put ; $"), 13)
        self.assertEqual(place_of(read_script, "script { put $ ; }"), 13)
        self.assertEqual(place_of(read_script, "script $ put ;"), 7)
        self.assertEqual(place_of(read_script, "put $"), 0)
        self.assertEqual(place_of(read_script, "$ put"), 0)
        self.assertEqual(place_of(read_script, "script { put abcdefghijklm first ; }"), 13)
        self.assertEqual(place_of(read_script, "script { put a\tfirst ; }"), 14)

    def test_numbers(self):
        self.assertEqual(place_of(read_script, "script { put 1 first ; }"), 13)
        self.assertEqual(place_of(read_script, "script { put a behind 0b ; }"), 22)
        self.assertEqual(place_of(read_script, "script { put a first " + "7" * 9000), 21)

    def test_all_short_texts(self):
        for size in range(4):
            for row in itertools.product(("put", "first", "behind", ";", "}", "1", "$"), repeat=size):
                for start in ("script { ", "script { put ", "script { put a first ; "):
                    self.check_place(SCRIPTS, start + " ".join(row))

    def test_drawn_texts(self):
        draw = random.Random(43)
        for _ in range(1500):
            row = draw.choices(LEXEMES + ("$", "A"), k=draw.randrange(6))
            start = draw.choice(["", "script { ", "script { put a ", "script{put first first;"])
            self.check_place(SCRIPTS, start + draw.choice([" ", "\n", "  "]).join(row))


class TestNothingChanged(unittest.TestCase):
    def test_arguments_stay(self):
        script = list(SCRIPT)
        with Untouched(self, script):
            script_text(script)

    def test_new_each_time(self):
        told = read_script(TEXT)
        for pair in told:
            self.assertIs(pair.__class__, tuple)
        told.clear()
        self.assertEqual(read_script(TEXT), SCRIPT)
        self.assertEqual(place_of(read_script, "script x"), place_of(read_script, "script x"))


if __name__ == "__main__":
    unittest.main()
