"""Nailed items, crossed ones, and what it costs to leave an item standing (S5.4, S5.5, S5.6)."""

import itertools
import random
import time
import unittest

from samples import (
    Untouched, book_b, book_with, dearest_of, drawn_books, great_pair, orders_of, raised, rows_of,
)
from test_plainwalks import plain_prices, plain_steps
from test_rowscripts import Scripts
from takenout.books import Book
from takenout.deeds import script_price
from takenout.errors import Crossed
from takenout.leastprices import least_price
from takenout.nails import kept_cost, nailed_price, nailed_script

F = ("a", "c", "d", "b")
G = ("b", "c", "d", "a")
SIDES = ("behind", "ahead")


class Nails(Scripts):
    def check_nailed(self, book, one, other, names, price):
        """The least price and a script with it, without deeds of nailed items."""
        self.assertEqual(nailed_price(book, one, other, names), price)
        script = nailed_script(book, one, other, names)
        taken = [name for name, _ in script]
        self.assertEqual(len(taken), len(set(taken)))
        self.assertFalse(set(taken) & set(names))
        self.check_script(book, one, other, tuple(name for name in one if name not in taken), script)
        self.assertEqual(sum(book.price(name) for name in taken), price)

    def check_crossed(self, book, one, other, names):
        """Both calls tell two nailed names that are crossed."""
        for call in (nailed_price, nailed_script):
            error = raised(Crossed, call, book, one, other, names)
            self.assertIn(error.one, names)
            self.assertIn(error.other, names)
            self.assertLess(one.index(error.one), one.index(error.other))
            self.assertGreater(other.index(error.one), other.index(error.other))


class TestExamples(Nails):
    def test_b_standing(self):
        self.check_nailed(book_b(), F, G, ["b"], 8)
        self.assertEqual(kept_cost(book_b(), F, G, "b"), 5)
        told = [("d", "b"), ("c", "b"), ("a", "d")]
        self.check_script(book_b(), F, G, ("b",), told)
        self.assertEqual(script_price(book_b(), told), 8)

    def test_a_and_b_crossed(self):
        for names in (["a", "b"], ["b", "a"], ("b", "b", "a")):
            for call in (nailed_price, nailed_script):
                error = raised(Crossed, call, book_b(), F, G, names)
                self.assertEqual((error.one, error.other), ("a", "b"))
                error = raised(Crossed, call, book_b(), G, F, names)
                self.assertEqual((error.one, error.other), ("b", "a"))

    def test_kept_costs(self):
        costs = [kept_cost(book_b(), F, G, name) for name in "abcd"]
        self.assertEqual(costs, [6, 5, 0, 0])

    def test_none_nailed(self):
        self.check_nailed(book_b(), F, G, [], 3)
        self.check_nailed(book_b(), F, G, (), 3)

    def test_a_name_twice(self):
        self.check_nailed(book_b(), F, G, ["b", "b", "b"], 8)
        self.check_nailed(book_b(), F, G, ["d", "c", "d"], 3)

    def test_all_names(self):
        self.check_nailed(book_b(), F, F, list("dcba"), 0)
        self.assertEqual(nailed_script(book_b(), F, F, list("abcd")), [])
        self.check_crossed(book_b(), F, G, list("abcd"))

    def test_edges(self):
        for side in SIDES:
            book = Book(side, [], [])
            self.assertEqual(nailed_price(book, (), (), []), 0)
            self.assertEqual(nailed_script(book, (), (), []), [])
            one = Book(side, [("a", 4)], [])
            self.check_nailed(one, ("a",), ("a",), ["a"], 0)
            self.assertEqual(kept_cost(one, ("a",), ("a",), "a"), 0)


class TestAgainstPlainWalks(Nails):
    def test_each_set_of_names(self):
        crossed = 0
        for book in drawn_books(20, seed=100):
            steps = plain_steps(book)
            for one in orders_of(book)[:2]:
                for size in range(5):
                    for names in itertools.combinations("abcd", size):
                        prices = plain_prices(steps, one, names)
                        for other in orders_of(book):
                            if other in prices:
                                self.check_nailed(book, one, other, list(names), prices[other])
                            else:
                                self.check_crossed(book, one, other, list(names))
                                crossed += 1
        self.assertGreater(crossed, 100)

    def test_kept_cost_of_each_item(self):
        draw = random.Random(101)
        for book in drawn_books(40, seed=102):
            steps = plain_steps(book)
            orders = orders_of(book)
            for one in orders[:2]:
                prices = plain_prices(steps, one)
                for name in "abcd":
                    kept_prices = plain_prices(steps, one, (name,))
                    for other in draw.sample(orders, min(len(orders), 6)):
                        more = kept_prices[other] - prices[other]
                        self.assertEqual(kept_cost(book, one, other, name), more)

    def test_0_exactly_for_items_of_a_dearest_row(self):
        for book in drawn_books(40, seed=103):
            for one, other in itertools.product(orders_of(book)[:4], repeat=2):
                rows = rows_of([one, other])
                best = dearest_of(book, rows)
                dearest = [row for row in rows if dearest_of(book, [row]) == best]
                for name in "abcd":
                    in_some = any(name in row for row in dearest)
                    self.assertEqual(kept_cost(book, one, other, name) == 0, in_some)


class TestCrossed(Nails):
    def test_names_far_apart(self):
        book = book_with("abcdef", [])
        one, other = tuple("abcdef"), tuple("fbcdea")
        self.check_crossed(book, one, other, list("af"))
        self.check_crossed(book, one, other, list("cafd"))
        self.check_crossed(book, one, other, list("fde"))
        self.check_nailed(book, one, other, list("cbd"), 2)
        self.check_nailed(book, one, other, ["a"], 5)

    def test_each_pair(self):
        one = tuple("abcd")
        book = book_with("abcd", [], "ahead", [1, 2, 4, 8])
        for other in itertools.permutations("abcd"):
            for names in itertools.combinations("abcd", 2):
                if other.index(names[0]) > other.index(names[1]):
                    self.check_crossed(book, one, other, list(names))
                    error = raised(Crossed, nailed_price, book, one, other, names[::-1])
                    self.assertEqual((error.one, error.other), names)
                else:
                    price = 15 - dearest_of(book, [
                        row for row in rows_of([one, other]) if set(names) <= set(row)
                    ])
                    self.check_nailed(book, one, other, list(names), price)


class TestGreatBooks(Nails):
    def test_forty_items(self):
        for side, seed, moves in itertools.product(SIDES, range(2), (None, 6)):
            book, one, other = great_pair(side, 30 + seed, moves=moves)
            begun = time.perf_counter()
            least = least_price(book, one, other)
            costs = [kept_cost(book, one, other, name) for name in book.names()]
            for name, more in zip(book.names(), costs):
                self.assertEqual(nailed_price(book, one, other, [name]), least + more)
            self.assertLess(time.perf_counter() - begun, 4)
            self.assertIn(0, costs)
            dear = book.names()[costs.index(max(costs))]
            self.check_nailed(book, one, other, [dear], least + max(costs))
            if one != other:
                self.check_crossed(book, one, other, list(one))


class TestNothingChanged(unittest.TestCase):
    def test_arguments_stay(self):
        names, crossed = ["b", "b"], ["a", "b"]
        book = book_b()
        with Untouched(self, F, G, names, crossed):
            nailed_price(book, F, G, names)
            nailed_script(book, F, G, names)
            kept_cost(book, F, G, "b")
            raised(Crossed, nailed_price, book, F, G, crossed)
        self.assertEqual(book, book_b())

    def test_lists_that_change_between_two_calls(self):
        names = ["c"]
        self.assertEqual(nailed_price(book_b(), F, G, names), 3)
        names.append("d")
        self.assertEqual(nailed_price(book_b(), F, G, names), 3)
        names[:] = ["b"]
        self.assertEqual(nailed_price(book_b(), F, G, names), 8)

    def test_new_each_time(self):
        first = nailed_script(book_b(), F, G, ["b"])
        again = list(first)
        first.clear()
        self.assertEqual(nailed_script(book_b(), F, G, ["b"]), again)
        error = raised(Crossed, nailed_price, book_b(), F, G, ["a", "c", "b"])
        same = raised(Crossed, nailed_price, book_b(), F, G, ["a", "c", "b"])
        self.assertEqual((error.one, error.other), (same.one, same.other))


if __name__ == "__main__":
    unittest.main()
