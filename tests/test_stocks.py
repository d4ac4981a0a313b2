"""Stocks of tables, their sides, and the books of their conditions (S6.1 to S6.3, S6.5)."""

import itertools
import random
import unittest

from samples import Untouched, kept, orders_of
from takenout.stocks import is_never_dearer, saying_book, sides_of
from takenout.tables import all_tables, keeps_condition

WORDS = ("xyz", "xzy", "yxz", "yzx", "zxy", "zyx")
SIDES = ["behind", "ahead"]
X_NOT_LAST = ("xyz", "xzy", "yxz", "zxy")
Y_NOT_FIRST = ("xyz", "xzy", "zxy", "zyx")
Y_NOT_LAST = ("xyz", "yxz", "yzx", "zyx")
X_AHEAD_OF_Z = ("xyz", "xzy", "yxz")
NO_SIDE = ("xyz", "yzx", "zxy")
# In the sequence that the interface tells for kept sayings.
SAYINGS = [
    ("x", ("y",)), ("x", ("z",)), ("x", ("y", "z")),
    ("y", ("x",)), ("y", ("z",)), ("y", ("x", "z")),
    ("z", ("x",)), ("z", ("y",)), ("z", ("x", "y")),
]


def plain_sides(table):
    """The sides of a table, by all sets of sayings about x, y and z."""
    sides = []
    for side in SIDES:
        for bits in range(512):
            some = [saying for k, saying in enumerate(SAYINGS) if bits >> k & 1]
            if table == tuple(word for word in WORDS if all(kept(side, word, it) for it in some)):
                sides.append(side)
                break
    return sides


SIDES_OF = {table: plain_sides(table) for table in all_tables()}


def drawn_stocks(count, seed):
    """Stocks of one to twelve tables, half of them of one side."""
    draw = random.Random(seed)
    for k in range(count):
        side = draw.choice(SIDES)
        tables = [table for table in all_tables() if k % 2 or side in SIDES_OF[table]]
        yield draw.choices(tables, k=draw.randrange(1, 13))


def plain_sayings(side, conditions):
    """All sayings that each condition has, in the sequence of the interface."""
    sayings = []
    for table, three in conditions:
        names = dict(zip("xyz", three))
        for name, some in SAYINGS:
            if all(kept(side, word, (name, some)) for word in table):
                sayings.append((names[name], tuple(names[other] for other in some)))
    return sayings


class TestSides(unittest.TestCase):
    def test_no_tables(self):
        for stock in ([], ()):
            self.assertEqual(sides_of(stock), SIDES)
            self.assertIs(is_never_dearer(stock), True)

    def test_single_tables(self):
        for table, sides in SIDES_OF.items():
            self.assertEqual(sides_of([table]), sides)
            self.assertIs(is_never_dearer([table]), bool(sides))

    def test_told(self):
        self.assertEqual(sides_of([X_NOT_LAST]), ["ahead"])
        self.assertEqual(sides_of([Y_NOT_FIRST, X_AHEAD_OF_Z]), ["behind"])
        self.assertEqual(sides_of([Y_NOT_FIRST, Y_NOT_LAST]), [])
        self.assertEqual(sides_of([X_AHEAD_OF_Z, WORDS]), SIDES)
        self.assertEqual(sides_of([WORDS, NO_SIDE]), [])
        self.assertIs(is_never_dearer([Y_NOT_FIRST, X_AHEAD_OF_Z]), True)
        self.assertIs(is_never_dearer([Y_NOT_FIRST, Y_NOT_LAST]), False)
        self.assertIs(is_never_dearer([X_AHEAD_OF_Z, NO_SIDE]), False)

    def test_drawn_stocks(self):
        for stock in drawn_stocks(150, seed=1):
            sides = [side for side in SIDES if all(side in SIDES_OF[table] for table in stock)]
            for same in (stock, stock[::-1], stock + stock[:1], tuple(stock)):
                self.assertEqual(sides_of(same), sides)
                self.assertIs(is_never_dearer(same), bool(sides))


class TestSayingBook(unittest.TestCase):
    def check_book(self, stock, items, conditions):
        """The book has just the sayings and just the orders of the conditions."""
        book = saying_book(stock, items, conditions)
        side = [side for side in SIDES if all(side in SIDES_OF[table] for table in stock)][0]
        self.assertEqual(book.side(), side)
        self.assertEqual(book.all_items(), list(items))
        self.assertEqual(book.sayings(), plain_sayings(side, conditions))
        expected = [
            order for order in itertools.permutations(book.names())
            if all(keeps_condition(order, condition) for condition in conditions)
        ]
        self.assertEqual(orders_of(book), expected)

    def test_told(self):
        items = [("a", 1), ("b", 2), ("c", 3), ("d", 0)]
        self.assertEqual(saying_book([Y_NOT_FIRST], items, [(Y_NOT_FIRST, ("d", "b", "a"))]).sayings(), [
            ("b", ("d", "a")),
        ])
        self.assertEqual(saying_book([X_AHEAD_OF_Z], items, [(X_AHEAD_OF_Z, ("d", "b", "a"))]).sayings(), [
            ("a", ("d",)), ("a", ("d", "b")),
        ])
        book = saying_book([X_AHEAD_OF_Z, X_NOT_LAST], items, [
            (X_NOT_LAST, ("c", "a", "b")), (X_AHEAD_OF_Z, ("d", "b", "a")), (X_NOT_LAST, ("c", "a", "b")),
        ])
        self.assertEqual(book.side(), "ahead")
        self.assertEqual(book.sayings(), [
            ("c", ("a", "b")), ("d", ("a",)), ("d", ("b", "a")), ("c", ("a", "b")),
        ])

    def test_each_table_at_three_items(self):
        items = [("b", 0), ("a", 10 ** 30), ("c", 1)]
        for table, sides in SIDES_OF.items():
            for three in itertools.permutations("abc") if sides else ():
                self.check_book([table], items, [(table, three)])

    def test_drawn_conditions(self):
        draw = random.Random(2)
        items = [("d", 4), ("a", 0), ("c", 2), ("b", 1), ("e", 1)]
        for stock in drawn_stocks(120, seed=3):
            if is_never_dearer(stock):
                conditions = [
                    (draw.choice(stock), tuple(draw.sample("abcde", 3))) for _ in range(draw.randrange(4))
                ]
                self.check_book(stock, items, conditions)
                self.check_book(tuple(stock[::-1]), tuple(items), tuple(conditions))
                self.check_book(stock + stock[-1:], items, conditions * 2)

    def test_none(self):
        self.check_book([X_NOT_LAST], [("a", 1), ("b", 2)], [])
        self.check_book([WORDS], [("a", 1), ("b", 2), ("c", 5)], [(WORDS, ("c", "b", "a"))])
        book = saying_book([], [], [])
        self.assertEqual((book.side(), book.all_items(), book.sayings()), ("behind", [], []))

    def test_sixteen_items_and_twelve_conditions(self):
        items = [(f"x{k}", k) for k in range(16)]
        conditions = [(X_NOT_LAST, (f"x{k}", f"x{k + 1}", f"x{k + 4}")) for k in range(12)]
        book = saying_book([X_NOT_LAST], items, conditions)
        self.assertEqual(book.sayings(), [
            (f"x{k}", (f"x{k + 1}", f"x{k + 4}")) for k in range(12)
        ])

    def test_no_orders(self):
        table = ("xyz",)
        conditions = [(table, ("a", "b", "c")), (table, ("c", "b", "a"))]
        self.check_book([table], [("a", 1), ("b", 1), ("c", 1)], conditions)


class TestNothingChanged(unittest.TestCase):
    def test_arguments_stay(self):
        stock, items = [X_AHEAD_OF_Z, WORDS], [("a", 1), ("b", 1), ("c", 1)]
        conditions = [(X_AHEAD_OF_Z, ("c", "b", "a"))]
        with Untouched(self, stock, items, conditions):
            sides_of(stock)
            is_never_dearer(stock)
            book = saying_book(stock, items, conditions)
        same = saying_book(stock, items, conditions)
        stock.clear()
        items.clear()
        conditions.clear()
        self.assertEqual(book, same)
        self.assertEqual(len(book.all_items()), 3)
        self.assertEqual(len(book.sayings()), 2)

    def test_new_each_time(self):
        for stock in ([], [WORDS]):
            first = sides_of(stock)
            first.clear()
            self.assertEqual(sides_of(stock), SIDES)


if __name__ == "__main__":
    unittest.main()
