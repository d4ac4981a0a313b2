"""Orders and the sayings they keep (S1.1, S1.2)."""

import itertools
import unittest

from samples import ODD, Untouched, all_sayings, book_b, book_with, drawn_books, kept, orders_of, raised
from takenout.books import mirrored_book
from takenout.errors import BadOrder
from takenout.orders import broken, check_order, is_order, keeps, mirrored_order


def path_of(value, book=None):
    """The path with which check_order refuses a value."""
    return raised(BadOrder, check_order, book or book_b(), value).path


class TestCheckOrder(unittest.TestCase):
    def test_right(self):
        for order in itertools.permutations("abcd"):
            self.assertIsNone(check_order(book_b(), order))
            self.assertIsNone(check_order(book_b(), list(order)))
        self.assertIsNone(check_order(book_with("", []), ()))
        self.assertIsNone(check_order(book_with("", []), []))

    def test_no_list(self):
        for value in (None, 0, True, "", "abcd", {}, {"a": 1, "b": 2, "c": 3, "d": 4}, book_b()):
            self.assertEqual(path_of(value), (), repr(value))

    def test_no_name(self):
        for value in ODD + ("e", ("a", 1)):
            self.assertEqual(path_of((value, "a", "b", "c", "d")), (0,), repr(value))
            self.assertEqual(path_of(["a", "b", value, value]), (2,), repr(value))

    def test_twice(self):
        self.assertEqual(path_of(("a", "b", "a", "c", "d")), (2,))
        self.assertEqual(path_of(("a", "a")), (1,))
        self.assertEqual(path_of(("a", "b", "c", "d", "d")), (4,))

    def test_first_of_two(self):
        self.assertEqual(path_of(("a", "e", "a")), (1,))
        self.assertEqual(path_of(("a", "a", "e")), (1,))

    def test_names_lacking(self):
        self.assertEqual(path_of(()), (0,))
        self.assertEqual(path_of([]), (0,))
        self.assertEqual(path_of(("d", "a")), (2,))
        self.assertEqual(path_of(("d", "a", "b")), (3,))

    def test_too_many(self):
        self.assertEqual(path_of(("a", "b", "c", "d", "e")), (4,))
        self.assertEqual(path_of(("a",), book_with("", [])), (0,))


class TestExamples(unittest.TestCase):
    def test_of_the_document(self):
        book = book_b()
        self.assertIs(is_order(book, ("a", "c", "d", "b")), True)
        self.assertIs(is_order(book, ("a", "d", "c", "b")), False)
        self.assertIs(is_order(book, ("c", "a", "b", "d")), False)
        self.assertEqual(broken(book, ("a", "d", "c", "b")), 1)
        self.assertEqual(broken(book, ("c", "a", "b", "d")), 0)
        self.assertIsNone(broken(book, ("a", "c", "d", "b")))


class TestBroken(unittest.TestCase):
    def test_first_of_several(self):
        book = book_with("abc", [("a", ("b", "c")), ("b", ("a",)), ("c", ("a",)), ("b", ("a",))])
        self.assertEqual(broken(book, ("a", "b", "c")), 0)
        self.assertEqual(broken(book, ("b", "a", "c")), 1)
        self.assertEqual(broken(book, ("b", "c", "a")), 1)
        self.assertEqual(broken(book, ("c", "a", "b")), 2)

    def test_against_all_orders(self):
        for book in drawn_books(40, seed=1):
            for order in itertools.permutations(book.names()):
                right = [kept(book.side(), order, saying) for saying in book.sayings()]
                expected = right.index(False) if False in right else None
                self.assertEqual(broken(book, order), expected)
                self.assertIs(is_order(book, order), expected is None)


class TestKeeps(unittest.TestCase):
    def test_both_sides(self):
        for side in ("behind", "ahead"):
            book = book_with("abcd", [], side)
            for order in itertools.permutations("abcd"):
                for saying in all_sayings("abcd"):
                    self.assertIs(keeps(book, order, saying), kept(side, order, saying))

    def test_saying_that_stands_in_no_book(self):
        self.assertIs(keeps(book_b(), ("c", "a", "b", "d"), ("a", ("c",))), True)
        self.assertIs(keeps(book_b("ahead"), ("c", "a", "b", "d"), ("a", ("c",))), False)


class TestIsOrder(unittest.TestCase):
    def test_lists_and_tuples(self):
        self.assertIs(is_order(book_b(), ["a", "c", "d", "b"]), True)
        self.assertIs(is_order(book_b("ahead"), ["b", "d", "c", "a"]), True)
        self.assertIs(is_order(book_b("ahead"), ("a", "c", "d", "b")), False)
        self.assertIs(is_order(book_with("", []), ()), True)
        self.assertIs(is_order(book_with("", []), []), True)

    def test_other_values(self):
        for value in ODD + (
            "acdb", ("a", "c", "d"), ("a", "c", "d", "b", "b"), ("a", "c", "d", "d"),
            ("a", "c", "d", "e"), ["a", "c", "d", ["b"]], {"a": 0, "c": 1, "d": 2, "b": 3},
        ):
            self.assertIs(is_order(book_b(), value), False, repr(value))

    def test_mirrored(self):
        for book in drawn_books(40, seed=2):
            mirror = mirrored_book(book)
            expected = {mirrored_order(order) for order in orders_of(book)}
            self.assertEqual(set(orders_of(mirror)), expected)
            for order in itertools.permutations(book.names()):
                self.assertIs(is_order(mirror, mirrored_order(order)), is_order(book, order))


class TestMirroredOrder(unittest.TestCase):
    def test_turned(self):
        self.assertEqual(mirrored_order(("a", "c", "d", "b")), ("b", "d", "c", "a"))
        self.assertEqual(mirrored_order(("a",)), ("a",))
        self.assertEqual(mirrored_order(()), ())
        self.assertIs(mirrored_order(("a", "b")).__class__, tuple)


class TestNothingChanged(unittest.TestCase):
    def test_arguments_stay(self):
        value, short, wrong = ["a", "c", "d", "b"], ["a"], ["a", ["b"], {"c": 1}]
        with Untouched(self, value, short, wrong):
            check_order(book_b(), value)
            path_of(short)
            path_of(wrong)
            is_order(book_b(), value)
            is_order(book_b(), wrong)


if __name__ == "__main__":
    unittest.main()
