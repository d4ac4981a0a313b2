"""Rows that stand in all of some orders (S4.1)."""

import itertools
import time
import unittest

from samples import (
    ITEMS, ODD, Untouched, book_b, book_with, dearest_of, drawn_orders, great_orders, rows_of,
)
from takenout.books import Book
from takenout.rows import dearest_price, dearest_row, dearest_with, is_row, row_price

F = ("a", "c", "d", "b")
G = ("b", "c", "d", "a")


def price_of(book, row):
    """The price of a row, said as S4.1 says it."""
    return sum(dict(book.all_items())[name] for name in row)


class TestExamples(unittest.TestCase):
    def test_rows(self):
        rows = [(), ("a",), ("b",), ("c",), ("d",), ("c", "d")]
        self.assertEqual(sorted(rows_of([F, G])), sorted(rows))
        for size in range(5):
            for value in itertools.permutations("abcd", size):
                self.assertIs(is_row(book_b(), [F, G], value), value in rows, value)
        self.assertEqual(dearest_row(book_b(), [F, G]), ("c", "d"))
        self.assertEqual(dearest_price(book_b(), [F, G]), 7)

    def test_one_order_alone(self):
        self.assertEqual(dearest_row(book_b(), [F]), F)
        self.assertEqual(dearest_price(book_b(), [F]), 10)
        self.assertIs(is_row(book_b(), [F], F), True)

    def test_price_0(self):
        book = book_with("ab", [], prices=[0, 5])
        self.assertIn(dearest_row(book, [("a", "b")]), (("b",), ("a", "b")))
        self.assertEqual(dearest_price(book, [("a", "b")]), 5)
        nothing = book_with("ab", [], prices=[0, 0])
        self.assertIn(dearest_row(nothing, [("a", "b"), ("b", "a")]), ((), ("a",), ("b",)))
        self.assertEqual(dearest_price(nothing, [("a", "b"), ("b", "a")]), 0)

    def test_without_items(self):
        book = Book("behind", [], [])
        for orders in ([()], [(), (), ()]):
            self.assertIs(is_row(book, orders, ()), True)
            self.assertEqual(dearest_row(book, orders), ())
            self.assertEqual(dearest_price(book, orders), 0)
            self.assertEqual(dearest_with(book, orders, ()), ())


class TestIsRow(unittest.TestCase):
    def test_against_all_rows(self):
        for book, orders in drawn_orders(80, seed=50):
            rows = rows_of(orders)
            names = book.names()
            for size in range(len(names) + 1):
                for value in itertools.permutations(names, size):
                    self.assertIs(is_row(book, orders, value), value in rows)

    def test_a_list_in_place_of_the_tuple(self):
        for row in ([], ["a"], ["c", "d"]):
            self.assertIs(is_row(book_b(), [F, G], row), False)
            self.assertIs(is_row(book_b(), [F, G], tuple(row)), True)

    def test_wrong_sequence_and_twice(self):
        for value in (("d", "c"), ("a", "a"), ("c", "c", "d"), ("c", "d", "c"), ("a", "c"), F, G):
            self.assertIs(is_row(book_b(), [F, G], value), False, value)
        self.assertIs(is_row(book_b(), [F, F], ("a", "b")), True)
        self.assertIs(is_row(book_b(), [F, F], ("b", "a")), False)

    def test_the_last_order_counts_too(self):
        self.assertIs(is_row(book_b(), [F, F, G, G[::-1]], ("c", "d")), False)
        self.assertIs(is_row(book_b(), [F, F, G, G], ("c", "d")), True)

    def test_values_of_any_kind(self):
        orders = [F, G]
        for value in ODD + ("a", "cd", {"c": 1, "d": 2}, None):
            expected = isinstance(value, tuple) and value in ((), ("a",))
            self.assertIs(is_row(book_b(), orders, value), expected, repr(value))
        for name in ODD + ("e", "cd", ["c"], ("c",), book_b()):
            self.assertIs(is_row(book_b(), orders, (name,)), False, repr(name))
            self.assertIs(is_row(book_b(), orders, ("c", name)), False, repr(name))
            self.assertIs(is_row(book_b(), orders, (name, "d")), False, repr(name))

    def test_neither_side_nor_sayings_are_asked_for(self):
        for side in ("behind", "ahead"):
            book = Book(side, list(ITEMS), [("a", ("b",)), ("b", ("a",))])
            self.assertIs(is_row(book, [("d", "c", "b", "a")], ("d", "b", "a")), True)


class TestRowPrice(unittest.TestCase):
    def test_any_tuple_of_names(self):
        for size in range(5):
            for row in itertools.permutations("abcd", size):
                self.assertEqual(row_price(book_b(), row), price_of(book_b(), row))

    def test_great(self):
        book = Book("ahead", [("a", 10 ** 30), ("b", 0), ("c", 10 ** 30)], [])
        self.assertEqual(row_price(book, ("c", "b", "a")), 2 * 10 ** 30)
        self.assertEqual(row_price(book, ()), 0)


class TestDearest(unittest.TestCase):
    def test_against_all_rows(self):
        for book, orders in drawn_orders(250, seed=51):
            rows = rows_of(orders)
            row = dearest_row(book, orders)
            self.assertIn(row, rows)
            self.assertEqual(price_of(book, row), dearest_of(book, rows))
            self.assertEqual(dearest_price(book, orders), dearest_of(book, rows))

    def test_all_pairs_of_orders(self):
        for prices in ([1, 1, 1, 1], [4, 2, 1, 3], [0, 1, 0, 2]):
            book = book_with("abcd", [], prices=prices)
            for order in itertools.permutations("abcd"):
                row = dearest_row(book, [("a", "b", "c", "d"), order])
                rows = rows_of([order, ("a", "b", "c", "d")])
                self.assertIn(row, rows)
                self.assertEqual(price_of(book, row), dearest_of(book, rows))

    def test_dear_name_among_cheap_ones(self):
        book = book_with("abcd", [], prices=[1, 1, 5, 1])
        self.assertEqual(dearest_row(book, [("a", "b", "d", "c"), ("c", "a", "b", "d")]), ("c",))
        book = book_with("abcd", [], prices=[1, 1, 2, 1])
        self.assertEqual(dearest_row(book, [("a", "b", "d", "c"), ("c", "a", "b", "d")]), ("a", "b", "d"))

    def test_the_same_order_many_times(self):
        book = book_with("abc", [], prices=[1, 2, 3])
        self.assertEqual(dearest_row(book, [("c", "a", "b")] * 12), ("c", "a", "b"))


class TestDearestWith(unittest.TestCase):
    def check(self, book, orders, row, rows):
        """One answer for a row, against all rows."""
        found = dearest_with(book, orders, row)
        having = [other for other in rows if set(row) <= set(other)]
        self.assertIn(found, having)
        self.assertIs(found.__class__, tuple)
        self.assertEqual(price_of(book, found), dearest_of(book, having))

    def test_against_all_rows(self):
        for book, orders in drawn_orders(150, seed=52):
            rows = rows_of(orders)
            for row in rows:
                self.check(book, orders, row, rows)

    def test_of_nothing_and_of_a_dearest_row(self):
        for book, orders in drawn_orders(80, seed=53):
            dearest = dearest_row(book, orders)
            price = dearest_price(book, orders)
            self.assertEqual(price_of(book, dearest_with(book, orders, ())), price)
            self.assertEqual(price_of(book, dearest_with(book, orders, dearest)), price)
            self.assertLessEqual(set(dearest), set(dearest_with(book, orders, dearest)))

    def test_ahead_between_and_behind(self):
        book = book_with("abcdefg", [], prices=[1, 2, 1, 2, 1, 2, 10])
        orders = [tuple("abcdefg"), tuple("gabcdef")]
        self.assertEqual(dearest_with(book, orders, ("b", "e")), tuple("abcdef"))
        self.assertEqual(dearest_with(book, orders, ("b",)), tuple("abcdef"))
        self.assertEqual(dearest_with(book, orders, ("g",)), ("g",))
        self.assertEqual(dearest_with(book, orders, ()), ("g",))

    def test_names_that_cost_nothing_are_not_forgotten(self):
        book = book_with("abc", [], prices=[0, 4, 0])
        self.assertEqual(dearest_with(book, [("a", "b", "c")], ("a", "c")), ("a", "b", "c"))
        self.assertEqual(dearest_with(book, [("a", "b", "c"), ("b", "a", "c")], ("a",))[0], "a")

    def test_single_names_of_the_example(self):
        for name, row in (("a", ("a",)), ("b", ("b",)), ("c", ("c", "d")), ("d", ("c", "d"))):
            self.assertEqual(dearest_with(book_b(), [F, G], (name,)), row)


class TestGreatOrders(unittest.TestCase):
    def test_twelve_orders_of_forty_names(self):
        for many in (1, 2, 3, 12):
            book, orders = great_orders(many, seed=54)
            begun = time.perf_counter()
            row = dearest_row(book, orders)
            price = dearest_price(book, orders)
            joined = dearest_with(book, orders, row[::2])
            self.assertLess(time.perf_counter() - begun, 2)
            self.assertTrue(is_row(book, orders, row))
            self.assertEqual(price_of(book, row), price)
            self.assertTrue(set(row[::2]) <= set(joined))
            self.assertEqual(price_of(book, joined), price)

    def test_all_names_in_one_sequence(self):
        # There are 2 ** 40 rows of these.
        book, orders = great_orders(1, seed=55)
        self.assertEqual(dearest_row(book, orders * 12), orders[0])
        self.assertEqual(dearest_price(book, orders * 12), book.total())

    def test_two_halves_exchanged(self):
        names = [f"x{k}" for k in range(40)]
        book = Book("ahead", [(name, 10 ** 30 - k) for k, name in enumerate(names)], [])
        orders = [tuple(names), tuple(names[20:] + names[:20])]
        self.assertEqual(dearest_row(book, orders), tuple(names[:20]))
        self.assertEqual(dearest_with(book, orders, ("x25",)), tuple(names[20:]))


class TestNothingChanged(unittest.TestCase):
    def test_arguments_stay(self):
        orders, value = [F, G], ["c", ["d"]]
        with Untouched(self, orders, value):
            is_row(book_b(), orders, value)
            is_row(book_b(), orders, ("c", ["d"]))
            dearest_row(book_b(), orders)
            dearest_price(book_b(), orders)
            dearest_with(book_b(), orders, ("c",))

    def test_tuples_of_orders(self):
        self.assertIs(is_row(book_b(), (F, G), ("c", "d")), True)
        self.assertEqual(dearest_row(book_b(), (F, G)), ("c", "d"))
        self.assertEqual(dearest_price(book_b(), (F, G)), 7)
        self.assertEqual(dearest_with(book_b(), (F, G), ("a",)), ("a",))

    def test_lists_that_change_between_two_calls(self):
        book, orders = book_b(), [F]
        self.assertEqual(dearest_price(book, orders), 10)
        orders.append(G)
        self.assertEqual(dearest_price(book, orders), 7)
        self.assertEqual(dearest_with(book, orders, ("b",)), ("b",))
        self.assertIs(is_row(book, orders, ("a", "b")), False)
        orders.pop(0)
        self.assertEqual(dearest_price(book, orders), 10)
        self.assertIs(is_row(book, orders, ("b", "a")), True)
        orders[0] = F
        self.assertEqual(dearest_with(book, orders, ("b",)), F)
        self.assertIs(is_row(book, orders, ("a", "b")), True)

    def test_repeated(self):
        for book, orders in drawn_orders(40, seed=56):
            self.assertEqual(dearest_row(book, orders), dearest_row(book, list(orders)))


if __name__ == "__main__":
    unittest.main()
