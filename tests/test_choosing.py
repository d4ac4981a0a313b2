"""Next deeds and orders between two orders (S7.1, S7.2, S7.4)."""

import itertools
import random
import time
import unittest

from samples import ODD, Untouched, book_b, book_with, drawn_books, great_pair, kept, orders_of
from test_deeds import plain_moved
from test_plainwalks import plain_prices, plain_steps
from takenout.books import Book, mirrored_book
from takenout.choosing import all_between, is_between, is_next, next_deeds
from takenout.deeds import all_deeds, script_price
from takenout.leastprices import least_price
from takenout.orders import mirrored_order

F = ("a", "c", "d", "b")
G = ("b", "c", "d", "a")
SIDES = ("behind", "ahead")


def all_pairs(book):
    """All deeds of a book, those that cannot be done, too."""
    return [
        (name, place) for name in book.names() for place in [None, *book.names()] if place != name
    ]


def plain_lets(book, order):
    """Whether an order keeps all sayings of a book."""
    return all(kept(book.side(), order, saying) for saying in book.sayings())


class TestExamples(unittest.TestCase):
    def test_next(self):
        self.assertEqual(next_deeds(book_b(), F, G), [("b", None), ("b", "a")])
        for deed in all_pairs(book_b()):
            self.assertIs(is_next(book_b(), F, G, deed), deed in [("b", None), ("b", "a")])

    def test_between(self):
        expected = [("a", "b", "c", "d"), F, ("b", "a", "c", "d"), G]
        self.assertEqual(all_between(book_b(), F, G), expected)
        for order in itertools.permutations("abcd"):
            self.assertIs(is_between(book_b(), F, G, order), order in expected)

    def test_mirrored(self):
        book = mirrored_book(book_b())
        one, other = mirrored_order(F), mirrored_order(G)
        self.assertEqual(next_deeds(book, one, other), [("b", "c"), ("b", "a")])
        expected = [F, ("a", "b", "c", "d"), ("b", "a", "c", "d"), G]
        self.assertEqual(sorted(all_between(book, one, other)), sorted(order[::-1] for order in expected))

    def test_to_itself(self):
        self.assertEqual(next_deeds(book_b(), F, F), [])
        self.assertEqual(all_between(book_b(), F, F), [F])
        free = book_with("abc", [], prices=[2, 0, 1])
        order = ("c", "b", "a")
        self.assertEqual(next_deeds(free, order, order), [("b", None), ("b", "c"), ("b", "a")])
        self.assertEqual(all_between(free, order, order), [("b", "c", "a"), ("c", "a", "b"), ("c", "b", "a")])

    def test_edges(self):
        for side in SIDES:
            book = Book(side, [], [])
            self.assertEqual(next_deeds(book, (), ()), [])
            self.assertEqual(all_between(book, (), ()), [()])
            self.assertIs(is_between(book, (), (), ()), True)
            self.assertIs(is_next(book, (), (), ()), False)
            for price in (0, 10 ** 30):
                book = Book(side, [("a", price)], [])
                self.assertEqual(next_deeds(book, ("a",), ("a",)), [("a", None)] if price == 0 else [])
                self.assertEqual(all_between(book, ("a",), ("a",)), [("a",)])


class TestSmallBooks(unittest.TestCase):
    def test_next_against_plain_walks(self):
        for book in drawn_books(60, seed=20):
            steps = plain_steps(book)
            orders = orders_of(book)
            for other in orders[::4]:
                back = plain_prices(steps, other)
                for one in orders[::3]:
                    deeds = [
                        deed for deed in all_deeds(book, one)
                        if book.price(deed[0]) + back[plain_moved(one, deed)] == back[one]
                    ]
                    self.assertEqual(next_deeds(book, one, other), deeds)
                    for deed in all_pairs(book):
                        self.assertIs(is_next(book, one, other, deed), deed in deeds)

    def test_between_against_plain_walks(self):
        for book in drawn_books(60, seed=21):
            steps = plain_steps(book)
            orders = orders_of(book)
            for one, other in itertools.product(orders[::3], orders[::4]):
                there, back = plain_prices(steps, one), plain_prices(steps, other)
                expected = [order for order in orders if there[order] + back[order] == there[other]]
                found = all_between(book, one, other)
                self.assertEqual(found, expected)
                self.assertLessEqual({one, other}, set(found))
                for order in itertools.permutations(book.names()):
                    self.assertIs(is_between(book, one, other, order), order in expected)

    def test_orders_between_are_those_of_next_deeds(self):
        for book in drawn_books(30, seed=22):
            orders = orders_of(book)
            for one, other in itertools.product(orders[::5], orders[::4]):
                reached = {one}
                waiting = [one]
                while waiting:
                    order = waiting.pop()
                    for deed in next_deeds(book, order, other):
                        behind = plain_moved(order, deed)
                        if behind not in reached:
                            reached.add(behind)
                            waiting.append(behind)
                self.assertEqual(sorted(all_between(book, one, other)), sorted(reached))

    def test_ascending_by_the_items(self):
        book = Book("behind", [("c", 0), ("a", 0), ("b", 0)], [])
        for one, other in itertools.product(itertools.permutations("abc"), repeat=2):
            self.assertEqual(all_between(book, one, other), list(itertools.permutations("cab")))

    def test_always_a_next_deed_that_changes(self):
        for book in drawn_books(60, seed=23):
            for one, other in itertools.product(orders_of(book)[:5], repeat=2):
                if one != other:
                    self.assertTrue([
                        deed for deed in next_deeds(book, one, other) if plain_moved(one, deed) != one
                    ])

    def test_next_deeds_lead_to_the_end(self):
        draw = random.Random(24)
        for book in drawn_books(60, seed=25, names="abcde"):
            items = [(name, price + 1) for name, price in book.all_items()]
            book = Book(book.side(), items, book.sayings())
            for one, other in itertools.product(orders_of(book)[:4], repeat=2):
                script = []
                at = one
                while at != other:
                    script.append(draw.choice(next_deeds(book, at, other)))
                    at = plain_moved(at, script[-1])
                    self.assertTrue(plain_lets(book, at))
                self.assertEqual(script_price(book, script), least_price(book, one, other))


class TestValuesOfAnyKind(unittest.TestCase):
    def test_deeds(self):
        free = Book("behind", [(name, 0) for name in "abcd"], [])
        for value in ODD + (
            ["b", None], ("b",), ("b", None, None), "b", "ba", ("b", "b"), ("b", "e"), ("e", None), ("b", 0),
            (None, "b"), ("b", ["a"]), (("b",), None), ("b", True), ("b", False), {"b": None}, (["b"], None),
        ):
            self.assertIs(is_next(book_b(), F, G, value), False, repr(value))
            self.assertIs(is_next(free, F, G, value), False, repr(value))
        self.assertIs(is_next(free, F, G, ("c", "b")), True)
        self.assertIs(is_next(book_b(), F, G, ("c", "b")), False)

    def test_orders(self):
        for value in ODD + (
            list(F), list(G), F[:3], (*F, "a"), ("a", "c", "d", "d"), ("a", "c", "d", "e"), "acdb",
            ("a", "c", "d", ["b"]), ("c", "d", "a", "b"), ("a", "d", "c", "b"), (F,), {name: 1 for name in F},
        ):
            self.assertIs(is_between(book_b(), F, G, value), False, repr(value))
        self.assertIs(is_between(book_b(), F, G, F), True)
        self.assertIs(is_between(book_b(), F, G, G), True)


class TestGreatBooks(unittest.TestCase):
    def test_forty_items(self):
        for side, moves in itertools.product(SIDES, (None, 5)):
            book, one, other = great_pair(side, 41, moves=moves)
            begun = time.perf_counter()
            deeds = next_deeds(book, one, other)
            self.assertLess(time.perf_counter() - begun, 2)
            least = least_price(book, one, other)
            found = 0
            for deed in all_deeds(book, one)[::3]:
                behind = plain_moved(one, deed)
                by_way = book.price(deed[0]) + least_price(book, behind, other)
                self.assertEqual(deed in deeds, by_way == least)
                self.assertIs(is_next(book, one, other, deed), by_way == least)
                found += by_way == least
                on_way = least_price(book, one, behind) + least_price(book, behind, other) == least
                self.assertIs(is_between(book, one, other, behind), on_way)
            self.assertGreater(found, 0)
            self.assertIs(is_between(book, one, other, other), True)

    def test_forty_items_by_next_deeds(self):
        for side in SIDES:
            book, one, other = great_pair(side, 43)
            book = Book(side, [(name, price + 1) for name, price in book.all_items()], book.sayings())
            least = least_price(book, one, other)
            paid = 0
            at = one
            while at != other:
                name, place = next_deeds(book, at, other)[-1]
                paid += book.price(name)
                at = plain_moved(at, (name, place))
                self.assertIs(is_between(book, one, other, at), True)
            self.assertEqual(paid, least)

    def test_seven_items(self):
        book = Book("ahead", [(name, 1) for name in "gfedcba"], [("a", ("b", "c")), ("g", ("a",))])
        one, other = tuple("gabcdef"), tuple("fgedacb")
        begun = time.perf_counter()
        found = all_between(book, one, other)
        self.assertLess(time.perf_counter() - begun, 4)
        self.assertIn(one, found)
        self.assertIn(other, found)
        self.assertEqual(found, sorted(found, reverse=True))
        self.assertEqual(all_between(book, other, one), found)


class TestNothingChanged(unittest.TestCase):
    def test_arguments_stay(self):
        book, value = book_b(), [["b"], None]
        with Untouched(self, F, G, value):
            is_next(book, F, G, value)
            is_next(book, F, G, (value, value))
            is_between(book, F, G, value)
            is_between(book, F, G, (value, value))
            next_deeds(book, F, G)
            all_between(book, F, G)
        self.assertEqual(book, book_b())

    def test_new_each_time(self):
        for call in (next_deeds, all_between):
            first = call(book_b(), F, G)
            again = list(first)
            for member in first:
                self.assertIs(member.__class__, tuple)
            first.clear()
            self.assertEqual(call(book_b(), F, G), again)


if __name__ == "__main__":
    unittest.main()
