"""Tours along several orders, and still rows (S7.3, S7.4)."""

import itertools
import time
import unittest

from samples import (
    Untouched, book_b, book_with, dearest_of, drawn_books, drawn_orders, great_pair, kept, orders_of, rows_of,
)
from test_deeds import plain_moved
from test_plainwalks import plain_prices, plain_steps
from takenout.books import Book
from takenout.leastprices import least_price
from takenout.nails import nailed_price
from takenout.tours import still_row, tour, tour_price

F = ("a", "c", "d", "b")
G = ("b", "c", "d", "a")
H = ("a", "b", "c", "d")
SIDES = ("behind", "ahead")


class Tours(unittest.TestCase):
    def check_tour(self, book, orders, row, price):
        """A tour along the orders has a price, and no deed of a row."""
        self.assertEqual(tour_price(book, orders, row), price)
        scripts = tour(book, orders, row)
        self.assertIs(scripts.__class__, list)
        self.assertEqual(len(scripts), len(orders) - 1)
        paid = 0
        for one, other, script in zip(orders, orders[1:], scripts):
            self.assertIs(script.__class__, list)
            at = one
            for deed in script:
                self.assertIs(deed.__class__, tuple)
                name, place = deed
                self.assertNotIn(name, row)
                self.assertTrue(place is None or place in at and place != name)
                at = plain_moved(at, deed)
                paid += book.price(name)
                for saying in book.sayings():
                    self.assertTrue(kept(book.side(), at, saying))
            self.assertEqual(at, other)
        self.assertEqual(paid, price)


class TestExamples(Tours):
    def test_three_orders(self):
        orders = [F, G, H]
        self.assertEqual(still_row(book_b(), orders), ("c", "d"))
        self.check_tour(book_b(), orders, ("c", "d"), 4)
        self.assertEqual(tour_price(book_b(), orders[:2], ("c", "d")), 3)
        self.assertEqual(tour_price(book_b(), orders[1:], ("c", "d")), 1)
        self.check_tour(book_b(), orders, (), 4)
        for row in rows_of(orders):
            price = sum(
                10 - dearest_of(book_b(), [it for it in rows_of(pair) if set(row) <= set(it)])
                for pair in (orders[:2], orders[1:])
            )
            self.check_tour(book_b(), orders, row, price)
        self.assertEqual(rows_of(orders), [(), ("a",), ("c",), ("d",), ("b",), ("c", "d")])

    def test_one_order(self):
        for row in rows_of([F]):
            self.assertEqual(tour_price(book_b(), [F], row), 0)
            self.assertEqual(tour(book_b(), [F], row), [])
        self.assertEqual(still_row(book_b(), [F]), F)

    def test_the_same_order_again(self):
        self.assertEqual(tour(book_b(), [F, F, F], F), [[], []])
        self.check_tour(book_b(), [F, F], F, 0)
        self.check_tour(book_b(), [F, G, F], ("c", "d"), 6)
        self.check_tour(book_b(), (F, G, F), ("b",), 16)

    def test_not_from_the_last_to_the_first(self):
        self.check_tour(book_b(), [F, G], (), 3)
        self.check_tour(book_b(), [F, G, F], (), 6)

    def test_edges(self):
        for side in SIDES:
            book = Book(side, [], [])
            self.assertEqual(still_row(book, [()]), ())
            self.assertEqual(still_row(book, [(), ()]), ())
            self.assertEqual(tour(book, [(), ()], ()), [[]])
            self.assertEqual(tour_price(book, [(), ()], ()), 0)
            self.check_tour(Book(side, [("a", 3)], []), [("a",), ("a",)], ("a",), 0)


class TestStillRow(unittest.TestCase):
    def test_against_all_rows(self):
        for book, orders in drawn_orders(200, seed=50):
            rows = rows_of(orders)
            row = still_row(book, orders)
            self.assertIn(row, rows)
            self.assertEqual(dearest_of(book, [row]), dearest_of(book, rows))


class TestLegByLeg(Tours):
    def test_against_plain_walks(self):
        for book in drawn_books(50, seed=51):
            steps = plain_steps(book)
            orders = orders_of(book)[::5][:4]
            for row in rows_of(orders) if orders else ():
                price = sum(
                    plain_prices(steps, one, row)[other] for one, other in zip(orders, orders[1:])
                )
                self.check_tour(book, orders, row, price)

    def test_pairs(self):
        for book in drawn_books(40, seed=52):
            for one, other in itertools.product(orders_of(book)[:4], repeat=2):
                self.assertEqual(tour_price(book, [one, other], ()), least_price(book, one, other))
                for row in rows_of([one, other]):
                    price = nailed_price(book, one, other, list(row))
                    self.check_tour(book, [one, other], row, price)

    def test_no_prices(self):
        book = book_with("abcd", [], prices=[0, 0, 0, 0])
        self.check_tour(book, [F, G, H], (), 0)
        self.check_tour(book, [F, G, H], ("d",), 0)


class TestGreatBooks(Tours):
    def test_twelve_orders_of_forty_items(self):
        for side in SIDES:
            book, one, _ = great_pair(side, 53)
            orders = [one]
            while len(orders) < 12:
                order = list(orders[-1])
                order.insert((7 * len(orders)) % 40, order.pop((11 * len(orders)) % 40))
                kept_all = all(kept(side, order, saying) for saying in book.sayings())
                orders.append(tuple(order) if kept_all else one)
            begun = time.perf_counter()
            row = still_row(book, orders)
            price = tour_price(book, orders, row)
            scripts = tour(book, orders, row)
            self.assertLess(time.perf_counter() - begun, 3)
            self.assertEqual(len(scripts), 11)
            self.assertGreater(len(row), 20)
            self.check_tour(book, orders, row, price)
            self.assertEqual(price, sum(
                nailed_price(book, one, other, list(row)) for one, other in zip(orders, orders[1:])
            ))


class TestNothingChanged(unittest.TestCase):
    def test_arguments_stay(self):
        book, orders = book_b(), [F, G, H]
        with Untouched(self, orders):
            still_row(book, orders)
            tour_price(book, orders, ("c", "d"))
            tour(book, orders, ("c", "d"))
        self.assertEqual(book, book_b())

    def test_new_each_time(self):
        first = tour(book_b(), [F, F, F, G], ())
        again = [list(script) for script in first]
        self.assertEqual(len({id(script) for script in first}), 3)
        for script in first:
            script.append(None)
        first.clear()
        self.assertEqual(tour(book_b(), [F, F, F, G], ()), again)
        self.assertEqual(tour(book_b(), (F, F, F, G), ()), again)


if __name__ == "__main__":
    unittest.main()
