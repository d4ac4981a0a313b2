"""Least sayings, books of orders and joined books (S8.5 to S8.7)."""

import itertools
import random
import time
import unittest

from samples import Untouched, all_sayings, book_b, kept, orders_of, raised, read_together
from test_together import drawn_lists
from takenout.books import Book
from takenout.errors import NotEqual, TooGreat
from takenout.madebooks import book_of, joined_book, least_sayings

F = ("a", "c", "d", "b")
G = ("b", "c", "d", "a")
SIDES = ("behind", "ahead")


def plain_least(side, orders, names, name):
    """The least sayings about a name, by trying all sayings, in the sequence of S8.5."""
    told = [
        set(some) for about, some in all_sayings(names)
        if about == name and all(kept(side, order, (about, some)) for order in orders)
    ]
    least = [some for some in told if not any(other < some for other in told)]
    rows = sorted(sorted(names.index(other) for other in some) for some in least)
    return [(name, tuple(names[k] for k in row)) for row in rows]


def items_of(names, draw):
    """Items with names and drawn prices."""
    return [(name, draw.randrange(5)) for name in names]


class TestExamples(unittest.TestCase):
    def test_behind(self):
        self.assertEqual(least_sayings("behind", [F, G], list("abcd"), "c"), [("c", ("a", "b"))])
        self.assertEqual(least_sayings("behind", [F, G], list("abcd"), "d"), [("d", ("a", "b")), ("d", ("c",))])
        self.assertEqual(least_sayings("behind", [F, G], list("abcd"), "a"), [])
        self.assertEqual(least_sayings("behind", [F, G], list("abcd"), "b"), [])
        self.assertEqual(book_of("behind", book_b().all_items(), [F, G]).sayings(), [
            ("c", ("a", "b")), ("d", ("a", "b")), ("d", ("c",)),
        ])

    def test_ahead(self):
        self.assertEqual(book_of("ahead", book_b().all_items(), [F, G]).sayings(), [
            ("c", ("a", "b")), ("c", ("d",)), ("d", ("a", "b")),
        ])

    def test_the_sequence_of_the_names(self):
        self.assertEqual(least_sayings("behind", [F, G], ("c", "d", "b", "a"), "d"), [
            ("d", ("c",)), ("d", ("b", "a")),
        ])
        self.assertEqual(book_of("behind", [("d", 0), ("b", 0), ("c", 0), ("a", 0)], [F, G]).sayings(), [
            ("d", ("b", "a")), ("d", ("c",)), ("c", ("b", "a")),
        ])

    def test_one_order(self):
        names = ["d", "a", "b", "c"]
        self.assertEqual(least_sayings("behind", [tuple("abcd")], names, "d"), [
            ("d", ("a",)), ("d", ("b",)), ("d", ("c",)),
        ])
        self.assertEqual(least_sayings("ahead", [tuple("abcd")], names, "b"), [("b", ("d",)), ("b", ("c",))])
        self.assertEqual(least_sayings("ahead", [tuple("abcd")], names, "d"), [])
        self.assertEqual(least_sayings("behind", [tuple("abcd")] * 12, names, "a"), [])

    def test_edges(self):
        for side in SIDES:
            self.assertEqual(book_of(side, [], [()]), Book(side, [], []))
            self.assertEqual(book_of(side, [("a", 7)], [("a",)] * 2), Book(side, [("a", 7)], []))
            self.assertEqual(least_sayings(side, [("a",)], ["a"], "a"), [])


class TestLeastSayings(unittest.TestCase):
    def test_against_all_sayings(self):
        draw = random.Random(80)
        for side, orders in drawn_lists(200, seed=81, most=12):
            names = draw.sample(orders[0], len(orders[0]))
            for name in names:
                expected = plain_least(side, orders, names, name)
                self.assertEqual(least_sayings(side, orders, names, name), expected)
                self.assertEqual(least_sayings(side, tuple(orders), tuple(names), name), expected)

    def test_none_about_a_first_name(self):
        for side, orders in drawn_lists(100, seed=82, most=5):
            for order in orders if orders[0] else ():
                first = order[0] if side == "behind" else order[-1]
                self.assertEqual(least_sayings(side, orders, list(orders[0]), first), [])

    def test_eight_names(self):
        draw = random.Random(83)
        names = list("hgfedcba")
        for side, many in itertools.product(SIDES, (2, 3, 4, 12)):
            orders = [tuple(draw.sample(names, 8)) for _ in range(many)]
            for name in names:
                found = least_sayings(side, orders, names, name)
                self.assertEqual(found, plain_least(side, orders, names, name))

    def test_two_orders_of_forty_names(self):
        names = [f"x{k}" for k in range(40)]
        begun = time.perf_counter()
        for side in SIDES:
            one = tuple(names[:39:2] + ["x39"] + names[1:39:2])
            other = tuple(names[1:39:2] + ["x39"] + names[:39:2])
            found = least_sayings(side, [one, other], names, "x39")
            self.assertEqual(len(found), 20 * 19)
            self.assertEqual(found, sorted(found, key=lambda it: [names.index(name) for name in it[1]]))
            self.assertEqual(found[0], ("x39", ("x0", "x1")))
            straight = least_sayings(side, [tuple(names)] * 2, names, names[20])
            row = names[:20] if side == "behind" else names[21:]
            self.assertEqual(straight, [(names[20], (name,)) for name in row])
        self.assertLess(time.perf_counter() - begun, 3)


class TestBookOf(unittest.TestCase):
    def test_its_orders_are_those_read_together(self):
        draw = random.Random(84)
        for side, orders in drawn_lists(150, seed=85, most=4):
            items = items_of(draw.sample(orders[0], len(orders[0])), draw)
            book = book_of(side, items, orders)
            self.assertEqual((book.side(), book.all_items()), (side, items))
            names = [name for name, _ in items]
            self.assertEqual(book.sayings(), [
                saying for name in names for saying in plain_least(side, orders, names, name)
            ])
            expected = [one for one in itertools.permutations(names) if read_together(side, orders, one)]
            self.assertEqual(orders_of(book), expected)
            self.assertEqual(book_of(side, tuple(items), tuple(orders)), book)

    def test_too_great(self):
        for side in SIDES:
            for many, count in ((11, 55), (12, 66), (40, 780)):
                names = [f"x{k}" for k in range(many)]
                items = [(name, 1) for name in names]
                if count > 60:
                    raised(TooGreat, book_of, side, items, [tuple(names)])
                else:
                    self.assertEqual(len(book_of(side, items, [tuple(names)]).sayings()), count)

    def test_sixty_and_sixty_one(self):
        # Of a row of 11 names there are 55 sayings; a twelfth one adds as many as stand ahead in both.
        names = [f"x{k}" for k in range(12)]
        items = [(name, 1) for name in names]
        for ahead in range(12):
            orders = [tuple(names), tuple(names[:ahead] + names[11:] + names[ahead:11])]
            if ahead > 5:
                raised(TooGreat, book_of, "behind", items, orders)
                turned = [order[::-1] for order in orders]
                raised(TooGreat, book_of, "ahead", items, turned)
            else:
                self.assertEqual(len(book_of("behind", items, orders).sayings()), 55 + ahead)

    def test_forty_names(self):
        names = [f"x{k}" for k in range(40)]
        items = [(name, 10 ** 30) for name in names]
        draw = random.Random(86)
        begun = time.perf_counter()
        for side in SIDES:
            raised(TooGreat, book_of, side, items, [tuple(draw.sample(names, 40)) for _ in range(2)])
            raised(TooGreat, book_of, side, items, [tuple(names), tuple(names[::-1])])
        self.assertLess(time.perf_counter() - begun, 3)


class TestJoinedBook(unittest.TestCase):
    def test_sayings_of_both(self):
        draw = random.Random(87)
        for (side, orders), (_, others) in zip(drawn_lists(80, seed=88), drawn_lists(80, seed=89)):
            names = orders[0] if len(orders[0]) <= len(others[0]) else others[0]
            items = items_of(sorted(names), draw)
            one, other = [
                book_of(side, items, [tuple(it for it in order if it in names) for order in some])
                for some in (orders, others)
            ]
            book = joined_book(one, other)
            self.assertEqual(book, Book(side, items, one.sayings() + other.sayings()))
            self.assertEqual(orders_of(book), [it for it in orders_of(one) if it in orders_of(other)])

    def test_not_equal(self):
        items = [("a", 1), ("b", 2)]
        book = Book("behind", items, [("a", ("b",))])
        for other in (
            Book("ahead", items, []), Book("behind", items[::-1], []), Book("behind", items[:1], []),
            Book("behind", [("a", 1), ("b", 3)], []), Book("behind", [("a", 1), ("c", 2)], []),
            Book("behind", items + [("c", 0)], []), Book("behind", [], []),
        ):
            raised(NotEqual, joined_book, book, other)
            raised(NotEqual, joined_book, other, book)

    def test_any_number_of_sayings(self):
        sayings = [("c", ("a", "b"))] * 45
        book = Book("ahead", book_b().all_items(), sayings)
        self.assertEqual(joined_book(book, book).sayings(), sayings * 2)
        self.assertEqual(joined_book(joined_book(book, book), book).sayings(), sayings * 3)
        self.assertEqual(joined_book(book_b(), book_b()).sayings(), book_b().sayings() * 2)

    def test_edges(self):
        for side in SIDES:
            self.assertEqual(joined_book(Book(side, [], []), Book(side, [], [])), Book(side, [], []))
        raised(NotEqual, joined_book, Book("ahead", [], []), Book("behind", [], []))


class TestNothingChanged(unittest.TestCase):
    def test_arguments_stay(self):
        orders, names, items = [F, G], list("abcd"), book_b().all_items()
        with Untouched(self, orders, names, items):
            least_sayings("behind", orders, names, "d")
            book = book_of("behind", items, orders)
        joined_book(book, book)
        self.assertEqual(len(book.sayings()), 3)
        items.clear()
        orders.clear()
        self.assertEqual(len(book.all_items()), 4)

    def test_new_each_time(self):
        first = least_sayings("behind", [F, G], list("abcd"), "d")
        again = list(first)
        for saying in first:
            self.assertIs(saying.__class__, tuple)
            self.assertIs(saying[1].__class__, tuple)
        first.clear()
        self.assertEqual(least_sayings("behind", [F, G], list("abcd"), "d"), again)


if __name__ == "__main__":
    unittest.main()
