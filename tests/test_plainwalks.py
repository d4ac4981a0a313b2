"""Least prices found by walking from order to order (S3.3), and that sayings never cost (S5.2)."""

import itertools
import unittest

from samples import Untouched, book_b, book_with, dearest_of, drawn_books, orders_of, rows_of
from test_deeds import plain_deeds, plain_moved
from takenout.books import Book, mirrored_book, with_sayings
from takenout.deeds import all_deeds, done
from takenout.plainwalks import walk_prices

ORDER = ("a", "c", "d", "b")


def plain_steps(book):
    """All deeds that can be done at each order of a book: the name, the order behind it, the price."""
    return {
        one: [(deed[0], plain_moved(one, deed), book.price(deed[0])) for deed in plain_deeds(book, one)]
        for one in orders_of(book)
    }


def plain_prices(steps, order, nailed=()):
    """The least price of each order to which a script leads, by doing deeds until none makes one less."""
    prices = {order: 0}
    changed = True
    while changed:
        changed = False
        for one, price in list(prices.items()):
            for name, behind, more in steps[one]:
                if name not in nailed and (behind not in prices or price + more < prices[behind]):
                    prices[behind] = price + more
                    changed = True
    return prices


def by_rows(book, order, other):
    """The least price as S5.2 tells it."""
    return book.total() - dearest_of(book, rows_of([order, other]))


class TestExamples(unittest.TestCase):
    def test_b(self):
        self.assertEqual(dict(walk_prices(book_b(), ORDER))[("b", "c", "d", "a")], 3)
        self.assertEqual(walk_prices(book_b(), ORDER), [
            (("a", "b", "c", "d"), 2),
            (("a", "c", "b", "d"), 2),
            (("a", "c", "d", "b"), 0),
            (("b", "a", "c", "d"), 2),
            (("b", "c", "a", "d"), 3),
            (("b", "c", "d", "a"), 3),
        ])

    def test_without_sayings_the_same(self):
        book = Book("behind", book_b().all_items(), [])
        self.assertEqual(dict(walk_prices(book, ORDER))[("b", "c", "d", "a")], 3)
        self.assertEqual(len(walk_prices(book, ORDER)), 24)

    def test_edges(self):
        for side in ("behind", "ahead"):
            self.assertEqual(walk_prices(Book(side, [], []), ()), [((), 0)])
            self.assertEqual(walk_prices(Book(side, [("a", 7)], []), ("a",)), [(("a",), 0)])
            two = Book(side, [("b", 10 ** 30), ("a", 3)], [])
            self.assertEqual(walk_prices(two, ("a", "b")), [(("b", "a"), 3), (("a", "b"), 0)])
            one = with_sayings(two, [("a", ("b",))])
            only = ("b", "a") if side == "behind" else ("a", "b")
            self.assertEqual(walk_prices(one, only), [(only, 0)])


class TestSmallBooks(unittest.TestCase):
    def test_each_order_and_no_other_ascending(self):
        for book in drawn_books(80, seed=30):
            numbers = {name: k for k, name in enumerate(book.names())}
            orders = sorted(orders_of(book), key=lambda order: [numbers[name] for name in order])
            for order in orders[:2]:
                self.assertEqual([one for one, _ in walk_prices(book, order)], orders)

    def test_ascending_by_the_items_and_not_by_the_alphabet(self):
        book = book_with("cab", [])
        expected = ["cab", "cba", "acb", "abc", "bca", "bac"]
        self.assertEqual(["".join(order) for order, _ in walk_prices(book, ("a", "b", "c"))], expected)

    def test_against_a_plain_search(self):
        for book in drawn_books(60, seed=31):
            steps = plain_steps(book)
            for order in orders_of(book)[::5]:
                found = walk_prices(book, order)
                self.assertEqual(dict(found), plain_prices(steps, order))
                self.assertEqual(dict(found)[order], 0)

    def test_great_small_and_no_prices(self):
        sayings = [("a", ("b", "c")), ("d", ("a", "b")), ("b", ("d", "c"))]
        for side, prices in itertools.product(
            ("behind", "ahead"),
            ([0, 0, 0, 0], [10 ** 30, 1, 0, 10 ** 30 + 1], [5, 5, 5, 5], [0, 3, 10 ** 30, 2]),
        ):
            book = book_with("abcd", sayings, side, prices)
            steps = plain_steps(book)
            for order in orders_of(book):
                self.assertEqual(dict(walk_prices(book, order)), plain_prices(steps, order))

    def test_sayings_never_cost(self):
        for book in drawn_books(60, seed=32, names="abcde", most=5):
            for order in orders_of(book)[::11]:
                for other, price in walk_prices(book, order):
                    self.assertEqual(price, by_rows(book, order, other))

    def test_mirrored(self):
        for book in drawn_books(40, seed=33):
            for order in orders_of(book)[:2]:
                prices = dict(walk_prices(book, order))
                turned = walk_prices(mirrored_book(book), order[::-1])
                self.assertEqual({other[::-1]: price for other, price in turned}, prices)


class TestSixItems(unittest.TestCase):
    def test_many_sayings(self):
        names = "abcdef"
        sayings = [(names[k], tuple(names[:k])) for k in range(1, 6)] * 12
        book = book_with(names, sayings, prices=[3, 0, 2, 7, 1, 5])
        found = walk_prices(book, tuple(names))
        self.assertEqual([order for order, _ in found], [order for order in orders_of(book)])
        self.assertEqual(len(found), 120)
        for other, price in found:
            self.assertEqual(price, by_rows(book, tuple(names), other))

    def test_all_orders(self):
        book = book_with("abcdef", [], "ahead", [1, 2, 4, 8, 16, 32])
        found = walk_prices(book, tuple("fedcba"))
        self.assertEqual([order for order, _ in found], list(itertools.permutations("abcdef")))
        self.assertEqual(dict(found)[tuple("abcdef")], 31)


class TestNothingChanged(unittest.TestCase):
    def test_new_each_time(self):
        book = book_b()
        with Untouched(self, ORDER):
            told = walk_prices(book, ORDER)
        again = list(told)
        told.clear()
        self.assertEqual(walk_prices(book, ORDER), again)
        self.assertEqual(book, book_b())

    def test_plain_pairs(self):
        for pair in walk_prices(book_b(), ORDER):
            self.assertIs(pair.__class__, tuple)
            self.assertIs(pair[0].__class__, tuple)
            self.assertIs(pair[1].__class__, int)

    def test_one_deed_costs_at_most_its_price(self):
        book = book_b()
        prices = dict(walk_prices(book, ORDER))
        for deed in all_deeds(book, ORDER):
            self.assertLessEqual(prices[done(book, ORDER, deed)], book.price(deed[0]))


if __name__ == "__main__":
    unittest.main()
