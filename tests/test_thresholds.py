"""Prices through and without a name, thresholds, and which items stand in dearest rows (S4.3, S4.4)."""

import time
import unittest

from samples import Untouched, book_b, book_with, dearest_of, drawn_orders, great_orders, rows_of
from takenout.books import Book
from takenout.rows import dearest_price
from takenout.thresholds import standing, threshold, through, without

F = ("a", "c", "d", "b")
G = ("b", "c", "d", "a")


def with_price(book, name, price):
    """The book with another price of one item."""
    items = [(other, price if other == name else old) for other, old in book.all_items()]
    return Book(book.side(), items, book.sayings())


def plain_word(book, rows, name):
    """In which dearest rows a name is, by all rows."""
    best = dearest_of(book, rows)
    dearest = [row for row in rows if dearest_of(book, [row]) == best]
    having = [row for row in dearest if name in row]
    if having == dearest:
        return "all"
    return "some" if having else "none"


class TestExamples(unittest.TestCase):
    def test_b(self):
        for name, expected in (("a", (1, 7, 7)), ("b", (2, 7, 7)), ("c", (7, 4, 0)), ("d", (7, 3, 0))):
            told = tuple(call(book_b(), [F, G], name) for call in (through, without, threshold))
            self.assertEqual(told, expected)
        self.assertEqual(standing(book_b(), [F, G]), ["none", "none", "all", "all"])

    def test_b_with_its_threshold_as_its_price(self):
        book = with_price(book_b(), "b", 7)
        self.assertEqual(threshold(book, [F, G], "b"), 7)
        self.assertEqual(standing(book, [F, G]), ["none", "some", "some", "some"])

    def test_price_0(self):
        book = book_with("ab", [], prices=[0, 5])
        self.assertEqual(standing(book, [("a", "b")]), ["some", "all"])
        self.assertEqual(threshold(book, [("a", "b")], "a"), 0)
        self.assertEqual(threshold(book, [("a", "b")], "b"), 0)

    def test_one_item(self):
        book = Book("ahead", [("a", 6)], [])
        self.assertEqual(through(book, [("a",)], "a"), 6)
        self.assertEqual(without(book, [("a",)], "a"), 0)
        self.assertEqual(threshold(book, [("a",)], "a"), 0)
        self.assertEqual(standing(book, [("a",)]), ["all"])
        self.assertEqual(standing(with_price(book, "a", 0), [("a",)]), ["some"])

    def test_without_items(self):
        self.assertEqual(standing(Book("behind", [], []), [()]), [])

    def test_one_order_alone(self):
        self.assertEqual(standing(book_b(), [F]), ["all"] * 4)
        for name in "abcd":
            self.assertEqual(through(book_b(), [F], name), 10)
            self.assertEqual(without(book_b(), [F], name), 10 - book_b().price(name))


class TestAgainstAllRows(unittest.TestCase):
    def test_prices_and_thresholds(self):
        for book, orders in drawn_orders(200, seed=70):
            rows = rows_of(orders)
            for name, price in book.all_items():
                with_it = dearest_of(book, [row for row in rows if name in row])
                without_it = dearest_of(book, [row for row in rows if name not in row])
                self.assertEqual(through(book, orders, name), with_it)
                self.assertEqual(without(book, orders, name), without_it)
                self.assertEqual(threshold(book, orders, name), without_it - with_it + price)
                self.assertGreaterEqual(threshold(book, orders, name), 0)

    def test_standing(self):
        words = set()
        for book, orders in drawn_orders(200, seed=71):
            rows = rows_of(orders)
            expected = [plain_word(book, rows, name) for name in book.names()]
            self.assertEqual(standing(book, orders), expected)
            words.update(expected)
        self.assertEqual(words, {"all", "some", "none"})

    def test_at_its_threshold_and_beside_it(self):
        for book, orders in drawn_orders(60, seed=72):
            rows = rows_of(orders)
            for at, name in enumerate(book.names()):
                least = threshold(book, orders, name)
                for price in {max(0, least - 1), least, least + 1, 0}:
                    other = with_price(book, name, price)
                    self.assertEqual(threshold(other, orders, name), least)
                    expected = "all" if price > least else "some" if price == least else "none"
                    self.assertEqual(standing(other, orders)[at], expected)
                    self.assertEqual(plain_word(other, rows, name), expected)

    def test_in_the_order_of_the_items(self):
        book = book_with("cab", [], prices=[1, 5, 1])
        self.assertEqual(standing(book, [("a", "b", "c"), ("c", "a", "b")]), ["none", "all", "all"])
        self.assertEqual(standing(book, [("b", "a", "c"), ("c", "a", "b")]), ["none", "all", "none"])

    def test_equal_prices(self):
        book = book_with("abcd", [])
        self.assertEqual(standing(book, [tuple("abcd"), tuple("badc")]), ["some"] * 4)
        self.assertEqual(standing(book, [tuple("abcd"), tuple("acbd")]), ["all", "some", "some", "all"])

    def test_only_prices_of_0(self):
        book = book_with("abc", [], prices=[0, 0, 0])
        orders = [("a", "b", "c"), ("c", "b", "a")]
        self.assertEqual(standing(book, orders), ["some"] * 3)
        for name in "abc":
            self.assertEqual((through(book, orders, name), without(book, orders, name)), (0, 0))


class TestGreatOrders(unittest.TestCase):
    def test_twelve_orders_of_forty_names(self):
        for many in (1, 2, 3, 12):
            book, orders = great_orders(many, seed=73)
            begun = time.perf_counter()
            words = standing(book, orders)
            self.assertLess(time.perf_counter() - begun, 2)
            best = dearest_price(book, orders)
            for name, word in zip(book.names(), words):
                with_it, without_it = through(book, orders, name), without(book, orders, name)
                self.assertEqual(max(with_it, without_it), best)
                least = without_it - with_it + book.price(name)
                self.assertEqual(threshold(book, orders, name), least)
                kinds = {1: "all", 0: "some", -1: "none"}
                self.assertEqual(word, kinds[(with_it > without_it) - (with_it < without_it)])


class TestNothingChanged(unittest.TestCase):
    def test_arguments_stay(self):
        orders = [F, G]
        with Untouched(self, orders):
            for call in (through, without, threshold):
                call(book_b(), orders, "c")
            standing(book_b(), orders)

    def test_lists_that_change_between_two_calls(self):
        book, orders = book_b(), [F]
        self.assertEqual(standing(book, orders), ["all"] * 4)
        orders.append(G)
        self.assertEqual(standing(book, orders), ["none", "none", "all", "all"])
        self.assertEqual(threshold(book, orders, "b"), 7)
        self.assertEqual(through(book, orders, "b"), 2)
        orders[0] = G
        self.assertEqual(threshold(book, orders, "b"), 0)
        self.assertEqual(through(book, orders, "b"), 10)
        self.assertEqual(without(book, orders, "b"), 8)

    def test_new_each_time(self):
        first = standing(book_b(), (F, G))
        self.assertIs(first.__class__, list)
        first.clear()
        self.assertEqual(standing(book_b(), (F, G)), ["none", "none", "all", "all"])

    def test_plain_numbers(self):
        for call in (through, without, threshold):
            self.assertIs(call(book_b(), (F, G), "c").__class__, int)


if __name__ == "__main__":
    unittest.main()
