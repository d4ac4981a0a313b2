"""Laying down and stuck sets (S2.1, S2.2)."""

import itertools
import unittest

from samples import ODD, Untouched, book_b, book_with, drawn_books, orders_of, raised
from takenout.books import Book, mirrored_book, with_sayings
from takenout.errors import NoOrder
from takenout.laying import any_order, judge_stuck, laid

SIDES = ("behind", "ahead")


def subsets(names):
    """All lists of some of the names, in their sequence."""
    return [list(some) for size in range(len(names) + 1) for some in itertools.combinations(names, size)]


def plain_laid(book, names):
    """The laid items of a set, by trying every sequence of laying."""
    best = []
    for size in range(len(names) + 1):
        for row in itertools.permutations(names, size):
            if all(
                any(other in row[:k] for other in some)
                for k, name in enumerate(row)
                for about, some in book.sayings() if about == name
            ):
                best = sorted(row)
    return best


def is_stuck(book, names):
    """Whether names are a stuck set, said as S2.2 says it."""
    return bool(names) and all(
        any(about == name and set(some) <= set(names) for about, some in book.sayings())
        for name in names
    )


class TestExamples(unittest.TestCase):
    def test_laid(self):
        for side in SIDES:
            book = book_b(side)
            self.assertEqual(laid(book, ["a", "b", "c", "d"]), ["a", "b", "c", "d"])
            self.assertEqual(laid(book, ["b", "c", "d"]), ["b", "c", "d"])
            self.assertEqual(laid(book, ["c", "d"]), [])

    def test_still_an_order(self):
        book = with_sayings(book_b(), [("a", ("d",))])
        self.assertEqual(orders_of(book), [("b", "c", "d", "a")])
        self.assertEqual(any_order(book), ("b", "c", "d", "a"))
        self.assertEqual(any_order(mirrored_book(book)), ("a", "d", "c", "b"))

    def test_none(self):
        for side in SIDES:
            book = with_sayings(book_b(side), [("a", ("d",)), ("b", ("d",))])
            self.assertEqual(raised(NoOrder, any_order, book).stuck, ("a", "b", "c", "d"))
            self.assertIs(judge_stuck(book, ["a", "b", "c", "d"]), True)


class TestLaid(unittest.TestCase):
    def test_in_the_order_of_the_items(self):
        book = book_with("dcba", [("d", ("a",)), ("c", ("d",))])
        self.assertEqual(laid(book, ["a", "c", "d"]), ["d", "c", "a"])
        self.assertEqual(laid(book, ("c", "a", "d", "a")), ["d", "c", "a"])

    def test_names_more_than_once(self):
        self.assertEqual(laid(book_b(), ["c", "b", "c", "b", "b"]), ["b", "c"])
        self.assertEqual(laid(book_b(), ["d", "d", "a"]), ["a"])
        self.assertEqual(laid(book_b(), []), [])

    def test_needs_each_saying(self):
        book = book_with("abc", [("c", ("a",)), ("c", ("b",))])
        self.assertEqual(laid(book, ["a", "c"]), ["a"])
        self.assertEqual(laid(book, ["b", "c"]), ["b"])
        self.assertEqual(laid(book, ["a", "b", "c"]), ["a", "b", "c"])

    def test_against_every_sequence(self):
        for book in drawn_books(60, seed=7):
            for names in subsets(book.names()):
                self.assertEqual(laid(book, names), plain_laid(book, names))
                self.assertEqual(laid(mirrored_book(book), names[::-1]), plain_laid(book, names))


class TestAnyOrder(unittest.TestCase):
    def test_on_both_sides(self):
        found = 0
        for book in drawn_books(200, seed=8):
            orders = orders_of(book)
            if orders:
                order = any_order(book)
                self.assertIn(order, orders)
                self.assertIs(order.__class__, tuple)
                self.assertEqual(any_order(book), order)
                found += 1
            else:
                stuck = [names for names in subsets(book.names()) if is_stuck(book, names)]
                greatest = tuple(name for name in book.names() if any(name in names for names in stuck))
                self.assertEqual(raised(NoOrder, any_order, book).stuck, greatest)
                self.assertTrue(is_stuck(book, greatest))
        self.assertTrue(20 < found < 180)

    def test_stuck_in_the_order_of_the_items(self):
        for side in SIDES:
            book = book_with("zyxw", [("w", ("z",)), ("z", ("w",)), ("y", ("w", "z"))], side)
            self.assertEqual(raised(NoOrder, any_order, book).stuck, ("z", "y", "w"))

    def test_without_items(self):
        for side in SIDES:
            self.assertEqual(any_order(Book(side, [], [])), ())

    def test_of_40_items(self):
        names = [f"x{k}" for k in range(40)]
        chain = [(names[k], (names[k + 1],)) for k in range(39)]
        for side in SIDES:
            book = Book(side, [(name, 1) for name in names], chain)
            expected = tuple(names[::-1] if side == "behind" else names)
            self.assertEqual(any_order(book), expected)
            closed = with_sayings(book, [(names[39], (names[0],))])
            self.assertEqual(raised(NoOrder, any_order, closed).stuck, tuple(names))


class TestJudgeStuck(unittest.TestCase):
    def test_each_set(self):
        for book in drawn_books(80, seed=9):
            for size in range(len(book.names()) + 1):
                for names in itertools.permutations(book.names(), size):
                    expected = is_stuck(book, names)
                    self.assertIs(judge_stuck(book, names), expected)
                    self.assertIs(judge_stuck(book, list(names)), expected)

    def test_values_of_any_kind(self):
        book = book_with("ab", [("a", ("b",)), ("b", ("a",))])
        self.assertIs(judge_stuck(book, ["b", "a"]), True)
        for value in ODD + (
            "ab", ["a", "b", "a"], ("a", "a"), ["a", "b", "c"], ["a", "b", ["a"]], [("a",), "b"],
            {"a": 1, "b": 2}, [["a", "b"]], ("a", "b", None), ("a", "b", 0),
        ):
            self.assertIs(judge_stuck(book, value), False, repr(value))


class TestNothingChanged(unittest.TestCase):
    def test_arguments_stay(self):
        names, value = ["c", "b", "b"], ["d", ["c"]]
        book = book_b()
        with Untouched(self, names, value):
            laid(book, names)
            judge_stuck(book, value)
            judge_stuck(book, names)
        self.assertEqual(book, book_b())

    def test_new_each_time(self):
        book, names = book_b(), ["a", "b"]
        told = laid(book, names)
        self.assertIsNot(told, names)
        told.clear()
        self.assertEqual(laid(book, names), ["a", "b"])


if __name__ == "__main__":
    unittest.main()
