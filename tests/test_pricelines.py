"""The least price for each price of one item (S9.3, S9.4)."""

import itertools
import time
import unittest

from samples import book_b, book_with, dearest_of, drawn_books, great_pair, orders_of, rows_of
from takenout.books import Book
from takenout.leastprices import least_price
from takenout.pricelines import least_at, price_line
from takenout.thresholds import threshold

F = ("a", "c", "d", "b")
G = ("b", "c", "d", "a")


def priced(book, name, price):
    """The book with another price of one item."""
    items = [(other, price if other == name else old) for other, old in book.all_items()]
    return Book(book.side(), items, book.sayings())


class TestExamples(unittest.TestCase):
    def test_told(self):
        self.assertEqual(price_line(book_b(), F, G, "b"), (1, 7))
        self.assertEqual(price_line(book_b(), F, G, "c"), (3, 0))
        for price in (0, 1, 2, 6, 7, 8, 10 ** 30):
            self.assertEqual(least_at(book_b(), F, G, "b", price), 1 + min(price, 7))
            self.assertEqual(least_at(book_b(), F, G, "c", price), 3)

    def test_to_itself(self):
        for name in "abcd":
            self.assertEqual(price_line(book_b(), F, F, name), (0, 0))
            self.assertEqual(least_at(book_b(), F, F, name, 9), 0)

    def test_edges(self):
        one = Book("ahead", [("a", 4)], [])
        self.assertEqual(price_line(one, ("a",), ("a",), "a"), (0, 0))
        two = book_with("ab", [], prices=[10 ** 30, 3])
        self.assertEqual(price_line(two, ("a", "b"), ("b", "a"), "a"), (0, 3))
        self.assertEqual(price_line(two, ("a", "b"), ("b", "a"), "b"), (0, 10 ** 30))
        self.assertEqual(least_at(two, ("a", "b"), ("b", "a"), "b", 10 ** 30 - 1), 10 ** 30 - 1)
        self.assertEqual(least_at(two, ("a", "b"), ("b", "a"), "b", 10 ** 30 + 1), 10 ** 30)


class TestAgainstBooksWithThePrice(unittest.TestCase):
    def test_all_rows(self):
        for book in drawn_books(60, seed=75):
            for one, other in itertools.product(orders_of(book)[::4][:4], repeat=2):
                rows = rows_of([one, other])
                for name in book.names():
                    least, turn = price_line(book, one, other, name)
                    free = priced(book, name, 0)
                    self.assertEqual(least, free.total() - dearest_of(free, rows))
                    self.assertEqual(turn, threshold(book, [one, other], name))
                    for price in {0, 1, max(turn - 1, 0), turn, turn + 1, book.price(name), 10 ** 30}:
                        told = priced(book, name, price)
                        expected = told.total() - dearest_of(told, rows)
                        self.assertEqual(least_at(book, one, other, name, price), expected)
                        self.assertEqual(expected, least + min(price, turn))
                        self.assertEqual(price_line(told, one, other, name), (least, turn))

    def test_forty_items(self):
        for side in ("behind", "ahead"):
            book, one, other = great_pair(side, 76)
            begun = time.perf_counter()
            for name in book.names():
                least, turn = price_line(book, one, other, name)
                for price in (0, turn, turn + 1, max(turn - 1, 0)):
                    told = priced(book, name, price)
                    self.assertEqual(least_at(book, one, other, name, price), least_price(told, one, other))
                    self.assertEqual(least_price(told, one, other), least + min(price, turn))
            self.assertLess(time.perf_counter() - begun, 5)

    def test_plain_values(self):
        line = price_line(book_b(), F, G, "b")
        self.assertIs(line.__class__, tuple)
        book = book_b()
        least_at(book, F, G, "b", 70)
        self.assertEqual(book, book_b())


if __name__ == "__main__":
    unittest.main()
