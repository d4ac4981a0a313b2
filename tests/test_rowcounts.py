"""Dearest rows counted and numbered (S9.1, S9.2, S9.4)."""

import itertools
import random
import time
import unittest

from samples import Untouched, book_b, book_with, dearest_of, drawn_books, drawn_orders, great_orders
from samples import orders_of, raised, rows_of
from test_plainwalks import plain_steps
from takenout.books import Book
from takenout.errors import TooGreat
from takenout.leastprices import least_price
from takenout.rowcounts import count_rows, count_with, drawn_row, row_at, row_number
from takenout.rows import is_row, row_price
from takenout.thresholds import standing

F = ("a", "c", "d", "b")
G = ("b", "c", "d", "a")


def plain_dearest(book, orders):
    """All dearest rows in the order of S9.1."""
    rows = rows_of(orders)
    dear = [row for row in rows if dearest_of(book, [row]) == dearest_of(book, rows)]
    return sorted(dear, key=lambda row: [orders[0].index(name) for name in row])


class TestExamples(unittest.TestCase):
    def test_one_row(self):
        self.assertEqual(count_rows(book_with("abcd", []), [F, G]), 1)
        self.assertEqual(row_at(book_with("abcd", []), [F, G], 0), ("c", "d"))
        self.assertEqual([count_with(book_b(), [F, G], name) for name in "abcd"], [0, 0, 1, 1])

    def test_four_rows(self):
        book, orders = book_with("abcd", []), [tuple("abcd"), tuple("badc")]
        expected = [("a", "c"), ("a", "d"), ("b", "c"), ("b", "d")]
        self.assertEqual(count_rows(book, orders), 4)
        self.assertEqual([row_at(book, orders, k) for k in range(4)], expected)
        self.assertEqual([row_number(book, orders, row) for row in expected], [0, 1, 2, 3])
        self.assertEqual([count_with(book, orders, name) for name in "abcd"], [2, 2, 2, 2])
        self.assertEqual([row_at(book, orders[::-1], k) for k in range(4)], [
            ("b", "d"), ("b", "c"), ("a", "d"), ("a", "c"),
        ])

    def test_prices_0(self):
        book, orders = book_with("ab", [], prices=[0, 0]), [("a", "b"), ("b", "a")]
        self.assertEqual(count_rows(book, orders), 3)
        self.assertEqual([row_at(book, orders, k) for k in range(3)], [(), ("a",), ("b",)])
        self.assertEqual([row_at(book, orders[::-1], k) for k in range(3)], [(), ("b",), ("a",)])
        self.assertEqual([count_with(book, orders, name) for name in "ab"], [1, 1])

    def test_a_row_with_which_another_begins(self):
        book = book_with("abc", [], prices=[0, 5, 0])
        expected = [("a", "b"), ("a", "b", "c"), ("b",), ("b", "c")]
        self.assertEqual([row_at(book, [tuple("abc")], k) for k in range(4)], expected)
        self.assertEqual([row_number(book, [tuple("abc")], row) for row in expected], [0, 1, 2, 3])

    def test_edges(self):
        for side in ("behind", "ahead"):
            book = Book(side, [], [])
            self.assertEqual(count_rows(book, [()]), 1)
            self.assertEqual(row_at(book, [(), ()], 0), ())
            self.assertEqual(row_number(book, [()], ()), 0)
            self.assertEqual(drawn_row(book, [()], 10 ** 39), ())
            raised(TooGreat, row_at, book, [()], 1)
            one = Book(side, [("a", 0)], [])
            self.assertEqual([row_at(one, [("a",)], k) for k in range(2)], [(), ("a",)])
            self.assertEqual(count_with(one, [("a",)], "a"), 1)
            dear = Book(side, [("a", 10 ** 30)], [])
            self.assertEqual((count_rows(dear, [("a",)]), row_at(dear, [("a",)], 0)), (1, ("a",)))


class TestAgainstAllRows(unittest.TestCase):
    def test_each_call(self):
        for book, orders in drawn_orders(400, seed=70):
            expected = plain_dearest(book, orders)
            count = len(expected)
            self.assertEqual(count_rows(book, orders), count)
            self.assertEqual([row_at(book, orders, k) for k in range(count)], expected)
            self.assertEqual([row_number(book, orders, row) for row in expected], list(range(count)))
            for name in book.names():
                self.assertEqual(count_with(book, orders, name), sum(name in row for row in expected))
            for number in (0, 1, count - 1, count, count + 1, 10 ** 30 + 7):
                self.assertEqual(drawn_row(book, orders, number), expected[number % count])
            for number in (count, count + 1, 10 ** 39):
                raised(TooGreat, row_at, book, orders, number)

    def test_prices_of_0_and_1(self):
        draw = random.Random(71)
        for _ in range(150):
            many = draw.randrange(1, 7)
            book = book_with("abcdef"[:many], [], prices=[draw.randrange(2) for _ in range(many)])
            orders = [tuple(draw.sample("abcdef"[:many], many)) for _ in range(draw.randrange(1, 5))]
            expected = plain_dearest(book, orders)
            self.assertEqual([row_at(book, tuple(orders), k) for k in range(len(expected))], expected)
            self.assertEqual(count_rows(book, orders), len(expected))
            for number, row in enumerate(expected):
                self.assertEqual(row_number(book, orders, row), number)
            for name in book.names():
                self.assertEqual(count_with(book, orders, name), sum(name in row for row in expected))

    def test_what_cheapest_scripts_leave(self):
        for book in drawn_books(25, seed=72):
            steps = plain_steps(book)
            orders = orders_of(book)[::4][:3]
            for one, other in itertools.product(orders, repeat=2):
                left = untouched(book, steps, one, other)
                rows = {frozenset(row) for row in plain_dearest(book, [one, other])}
                self.assertEqual(left, rows)
                self.assertEqual(count_rows(book, [one, other]), len(rows))

    def test_all_some_and_none(self):
        for book, orders in drawn_orders(150, seed=73):
            count = count_rows(book, orders)
            words = [
                "none" if many == 0 else "all" if many == count else "some"
                for many in [count_with(book, orders, name) for name in book.names()]
            ]
            self.assertEqual(standing(book, orders), words)


def untouched(book, steps, one, other):
    """The sets of items of which some cheapest script has no deed, by all ways of the least price."""
    least = least_price(book, one, other)
    reached = {(one, frozenset()): 0}
    waiting = [(one, frozenset())]
    while waiting:
        order, taken = waiting.pop()
        for name, behind, price in steps[order]:
            more = reached[order, taken] + price
            key = (behind, taken | {name})
            if more <= least and more < reached.get(key, more + 1):
                reached[key] = more
                waiting.append(key)
    return {frozenset(one) - taken for (order, taken) in reached if order == other}


class TestGreatBooks(unittest.TestCase):
    def test_very_many_rows(self):
        names = [f"x{k}" for k in range(40)]
        order = tuple(names)
        nothing = Book("behind", [(name, 0) for name in names], [])
        begun = time.perf_counter()
        self.assertEqual(count_rows(nothing, [order]), 2 ** 40)
        self.assertEqual(row_at(nothing, [order], 2 ** 40 - 1), ("x39",))
        self.assertEqual(row_at(nothing, [order], 40), order)
        self.assertEqual(row_number(nothing, [order], order), 40)
        self.assertEqual(count_with(nothing, [order], "x7"), 2 ** 39)
        turned = tuple(name for k in range(0, 40, 2) for name in (names[k + 1], names[k]))
        book = Book("ahead", [(name, 10 ** 30) for name in names], [])
        self.assertEqual(count_rows(book, [order, turned]), 2 ** 20)
        self.assertEqual(row_at(book, [order, turned], 0), tuple(names[::2]))
        self.assertEqual(row_at(book, [order, turned], 2 ** 20 - 1), tuple(names[1::2]))
        self.assertEqual(drawn_row(book, [order, turned], 2 ** 21 + 1), tuple(names[:38:2] + ["x39"]))
        raised(TooGreat, row_at, book, [order, turned], 2 ** 20)
        self.assertEqual(count_with(book, [order, turned], "x30"), 2 ** 19)
        self.assertLess(time.perf_counter() - begun, 3)

    def test_twelve_orders_of_forty_items(self):
        draw = random.Random(74)
        for seed in range(3):
            told, orders = great_orders(12, seed)
            for prices in (dict(told.all_items()), {}, {name: draw.randrange(2) for name in told.names()}):
                book = Book("ahead", [(name, prices.get(name, 1)) for name in told.names()], [])
                begun = time.perf_counter()
                count = count_rows(book, orders)
                for number in {0, count // 3, count - 1}:
                    row = row_at(book, orders, number)
                    self.assertTrue(is_row(book, orders, row))
                    self.assertEqual(row_number(book, orders, row), number)
                    self.assertEqual(row_price(book, row), row_price(book, row_at(book, orders, 0)))
                raised(TooGreat, row_at, book, orders, count)
                words = standing(book, orders)
                for name, word in zip(book.names(), words):
                    many = count_with(book, orders, name)
                    self.assertEqual(word, "none" if many == 0 else "all" if many == count else "some")
                self.assertLess(time.perf_counter() - begun, 4)


class TestNothingChanged(unittest.TestCase):
    def test_arguments_stay(self):
        book, orders = book_b(), [F, G]
        with Untouched(self, orders):
            count_rows(book, orders)
            row_at(book, orders, 0)
            row_number(book, orders, ("c", "d"))
            drawn_row(book, orders, 5)
            count_with(book, orders, "c")
        self.assertEqual(book, book_b())

    def test_plain_values(self):
        row = row_at(book_b(), (F, G), 0)
        self.assertIs(row.__class__, tuple)
        self.assertIs(drawn_row(book_b(), (F, G), 1).__class__, tuple)
        self.assertIs(count_rows(book_b(), (F, G)).__class__, int)
        self.assertIs(count_with(book_b(), (F, G), "a").__class__, int)


if __name__ == "__main__":
    unittest.main()
