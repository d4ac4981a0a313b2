"""Texts of books and of orders, and their wrong places (S1.3, S1.5)."""

import random
import re
import unittest

from samples import Untouched, book_b, book_with, drawn_books, raised
from test_lexemes import plain_lexemes
from takenout.books import Book
from takenout.booktexts import book_text, order_text, read_book, read_order
from takenout.errors import BadBook, BadText

TEXT_B = (
    "book behind {\n"
    "item a costs 1;\n"
    "item b costs 2;\n"
    "item c costs 3;\n"
    "item d costs 4;\n"
    "saying c needs a b;\n"
    "saying d needs c;\n"
    "}\n"
)
NAME = "[a-z][a-z0-9]* "
BOOK_FORM = (
    "book (behind |ahead ){ "
    f"(item {NAME}costs [0-9]+ ; )*"
    f"(saying {NAME}needs {NAME}({NAME})*; )*}} "
)
ORDER_FORM = f"order {{ ({NAME})*}} "
# One of these ends each text of a form that has begun rightly.
BOOK_ENDS = (
    "book behind { } ", "behind { } ", "{ } ", "} ", "",
    "a costs 1 ; } ", "costs 1 ; } ", "1 ; } ", "; } ", "a needs a ; } ", "needs a ; } ", "a ; } ",
)
ORDER_ENDS = ("order { } ", "{ } ", "} ", "")
BOOKS = (BOOK_FORM, BOOK_ENDS, read_book)
ORDERS = (ORDER_FORM, ORDER_ENDS, read_order)
LEXEMES = (
    "book", "behind", "ahead", "{", "}", ";", "item", "costs", "saying", "needs", "order", "a", "b9",
    "0", "12",
)


def place_of(read, text):
    """The place with which a text is refused."""
    return raised(BadText, read, text).place


def first_wrong_place(form, ends, text):
    """The first wrong place of a text by a form, or None, said as S1.5 says it."""
    found, stop = plain_lexemes(text)
    begun = ""
    for _, lexeme, place in found:
        begun += lexeme + " "
        if not any(re.fullmatch(form, begun + end) for end in ends):
            return place
    if stop is not None:
        return stop
    return None if re.fullmatch(form, begun) else len(text)


class Texts(unittest.TestCase):
    def check_place(self, how, text):
        """A text is read, or refused with its first wrong place."""
        form, ends, read = how
        expected = first_wrong_place(form, ends, text)
        try:
            read(text)
        except BadText as error:
            self.assertEqual(error.place, expected, repr(text))
        except BadBook:
            self.assertIsNone(expected, repr(text))
        else:
            self.assertIsNone(expected, repr(text))


class TestWritten(unittest.TestCase):
    def test_of_b(self):
        self.assertEqual(book_text(book_b()), TEXT_B)
        self.assertEqual(book_text(book_b("ahead")), TEXT_B.replace("behind", "ahead"))

    def test_of_a_book_without_items(self):
        self.assertEqual(book_text(Book("behind", [], [])), "book behind {\n}\n")

    def test_of_orders(self):
        self.assertEqual(order_text(("a", "b")), "order {\na b }\n")
        self.assertEqual(order_text(()), "order {\n}\n")
        self.assertEqual(order_text(("a", "order", "a")), "order {\na order a }\n")

    def test_great_price(self):
        book = Book("ahead", [("a", 10 ** 30), ("b", 0)], [("b", ("a",))])
        text = f"book ahead {{\nitem a costs {10 ** 30};\nitem b costs 0;\nsaying b needs a;\n}}\n"
        self.assertEqual(book_text(book), text)


class TestReadBack(unittest.TestCase):
    def test_b(self):
        self.assertEqual(read_book(TEXT_B), book_b())

    def test_drawn_books(self):
        for book in drawn_books(60, seed=3):
            self.assertEqual(read_book(book_text(book)), book)

    def test_any_gaps(self):
        draw = random.Random(4)
        for book in drawn_books(40, seed=5):
            found, _ = plain_lexemes(book_text(book))
            text = draw.choice(["", " ", "\n"])
            for sort, lexeme, _ in found:
                gaps = [" ", "\n", " \n  ", "\n\n"] + ([""] if text.endswith((";", "{", "}")) else [])
                text += draw.choice(gaps) + lexeme
            self.assertEqual(read_book(text + draw.choice(["", " ", "\n \n"])), book)

    def test_no_gaps_where_none_are_needed(self):
        text = "book behind{item a costs 1;item b costs 2;saying a needs b;}"
        self.assertEqual(read_book(text), book_with("ab", [("a", ("b",))], prices=[1, 2]))

    def test_a_number_and_a_word_side_by_side(self):
        self.assertEqual(place_of(read_book, "book behind {item a costs 1x;}"), 27)
        self.assertEqual(read_book("book behind {item a costs 0;}").all_items(), [("a", 0)])

    def test_orders(self):
        for order in ((), ("a",), ("a", "b"), ("b", "a", "b"), ("order", "order"), ("a1", "abcdefghijkl")):
            self.assertEqual(read_order(order_text(order)), order)
        self.assertEqual(read_order("\norder{ a\n b\n\n}  "), ("a", "b"))
        self.assertIs(read_order("order { a }").__class__, tuple)

    def test_words_of_the_form_as_names(self):
        words = ("book", "behind", "ahead", "item", "costs", "saying", "needs", "order")
        items = [(word, k) for k, word in enumerate(words)]
        sayings = [("saying", ("needs",)), ("needs", ("saying", "item", "needs2")), ("item", words[:3])]
        book = Book("ahead", items + [("needs2", 0)], sayings)
        self.assertEqual(read_book(book_text(book)), book)
        self.assertEqual(read_order(order_text(words)), words)

    def test_long_text(self):
        names = tuple(f"x{k}" for k in range(3000))
        self.assertEqual(read_order(order_text(names)), names)


class TestExamples(unittest.TestCase):
    def test_wrong_places_of_the_document(self):
        self.assertEqual(place_of(read_book, "book behind { 1"), 14)
        self.assertEqual(place_of(read_book, "book x y"), 5)
        self.assertEqual(place_of(read_book, "book ahead {saying a needs }"), 27)
        self.assertEqual(place_of(read_order, "order { abcdefghijklm }"), 8)
        self.assertEqual(place_of(read_book, "book behind { item a costs 007 ;"), 28)


class TestWrongPlaces(Texts):
    SAMPLES = (
        (BOOKS, "book behind { item a costs 1 ; item item costs 0 ; saying a needs item ; saying needs needs a b ; }"),
        (BOOKS, "book ahead { saying a needs b ; }"),
        (BOOKS, "book ahead { }"),
        (ORDERS, "order { a order b9 }"),
        (ORDERS, "order { }"),
    )

    def test_each_wrong_lexeme_at_each_place(self):
        for how, text in self.SAMPLES:
            row = text.split(" ")
            for at in range(len(row) + 1):
                for lexeme in LEXEMES + ("$", "abcdefghijklm"):
                    self.check_place(how, " ".join(row[:at] + [lexeme] + row[at + 1:]))
                    self.check_place(how, " ".join(row[:at] + [lexeme] + row[at:]))
                self.check_place(how, " ".join(row[:at] + row[at + 1:]))

    def test_text_that_ends_too_early(self):
        for how, text in self.SAMPLES:
            for end in range(len(text)):
                self.check_place(how, text[:end])
                self.check_place(how, text[:end] + " \n ")
        self.assertEqual(place_of(read_book, ""), 0)
        self.assertEqual(place_of(read_book, " \n"), 2)
        self.assertEqual(place_of(read_order, "order {  "), 9)
        self.assertEqual(place_of(read_book, "book behind { item a costs 1 \n"), 30)

    def test_more_behind_the_end(self):
        self.assertEqual(place_of(read_book, "book behind { } }"), 16)
        self.assertEqual(place_of(read_book, "book behind { }\n$"), 16)
        self.assertEqual(place_of(read_order, "order { } order { }"), 10)
        self.assertEqual(place_of(read_order, "order { }\t"), 9)

    def test_sign_that_begins_no_lexeme(self):
        self.assertEqual(place_of(read_book, "book $ behind"), 5)
        self.assertEqual(place_of(read_book, "book behind ; $"), 12)
        self.assertEqual(place_of(read_book, "book $ behind ;"), 5)
        self.assertEqual(place_of(read_order, "order ; abcdefghijklm"), 6)
        self.assertEqual(place_of(read_order, "order { a 1 $"), 10)
        self.assertEqual(place_of(read_order, "order { a $ 1"), 10)
        self.assertEqual(place_of(read_order, "$ ;"), 0)

    def test_items_behind_sayings(self):
        text = "book behind { saying a needs b ; item a costs 1 ; }"
        self.assertEqual(place_of(read_book, text), text.index("item"))

    def test_drawn_texts(self):
        draw = random.Random(6)
        for how, words in ((BOOKS, LEXEMES), (ORDERS, ("order", "{", "}", "a", "1", ";"))):
            for _ in range(1500):
                row = draw.choices(words + ("$", "A"), k=draw.randrange(6))
                start = draw.choice(["", "book behind { ", "book ahead { item a costs ", "order { "])
                self.check_place(how, start + draw.choice([" ", "\n", "  "]).join(row))

    def test_numbers_of_any_length_at_a_wrong_place_or_behind(self):
        digits = "1" * 9000
        self.assertEqual(place_of(read_book, "book behind { item " + digits), 19)
        self.assertEqual(place_of(read_book, "book behind { ; item a costs " + digits), 14)
        self.assertEqual(place_of(read_order, "order { " + digits + " }"), 8)


class TestBadBook(unittest.TestCase):
    def path(self, text):
        return raised(BadBook, read_book, text).path

    def test_what_a_text_tells(self):
        self.assertEqual(self.path("book behind { item a costs 1 ; item a costs 2 ; }"), (1, 1, 0))
        self.assertEqual(self.path("book behind { saying a needs b ; }"), (2, 0, 0))
        self.assertEqual(self.path("book ahead { item a costs 1 ; saying a needs b ; }"), (2, 0, 1, 0))
        self.assertEqual(self.path("book ahead { item a costs 1 ; saying a needs a ; }"), (2, 0, 1, 0))
        text = "book behind { item a costs 1 ; item b costs 1 ; saying a needs b ; saying a needs b b ; }"
        self.assertEqual(self.path(text), (2, 1, 1, 1))

    def test_only_without_a_wrong_place(self):
        text = "book behind { item a costs 1 ; item a costs 2 ; } }"
        self.assertEqual(place_of(read_book, text), len(text) - 1)
        text = "book behind { item a costs 1 ; item a costs 2 ; saying x needs"
        self.assertEqual(place_of(read_book, text), len(text))


class TestNothingChanged(unittest.TestCase):
    def test_arguments_stay(self):
        book, order = book_b(), ("a", "b")
        items, sayings = book.all_items(), book.sayings()
        with Untouched(self, order):
            self.assertEqual(book_text(book), book_text(book))
            order_text(order)
        self.assertEqual((book.all_items(), book.sayings()), (items, sayings))

    def test_repeated(self):
        self.assertEqual(read_book(TEXT_B), read_book(TEXT_B))
        self.assertEqual(place_of(read_book, "book x"), place_of(read_book, "book x"))


if __name__ == "__main__":
    unittest.main()
