"""Breaks of stocks, let orders and walked prices (S6.4, S6.5)."""

import copy
import itertools
import random
import time
import unittest

from samples import ODD, Untouched, dearest_of, rows_of
from test_stocks import (
    NO_SIDE, SIDES_OF, WORDS, X_AHEAD_OF_Z, X_NOT_LAST, Y_NOT_FIRST, Y_NOT_LAST, drawn_stocks,
)
from takenout.books import Book
from takenout.breaks import find_break, judge_break, let_orders, walked_price
from takenout.tables import all_tables

TURN = ("xyz", "zyx")
ABC = ("a", "b", "c")
CBA = ("c", "b", "a")
ITEMS = (("a", 1), ("b", 1), ("c", 1))
TURNED = (ITEMS, ((TURN, ABC),), ABC, CBA)


def plain_keeps(order, condition):
    """Whether an order keeps a condition, said as S6.1 says it."""
    table, three = condition
    return any(
        [name for name in order if name in three] == [three["xyz".index(letter)] for letter in word]
        for word in table
    )


def plain_let(items, conditions):
    """The orders of the names that keep conditions, ascending by the items."""
    return [
        order for order in itertools.permutations([name for name, _ in items])
        if all(plain_keeps(order, condition) for condition in conditions)
    ]


def plain_walks(items, conditions, one):
    """The least prices of let orders, by single deeds until none makes a price less."""
    orders = plain_let(items, conditions)
    steps = []
    for order, (name, price) in itertools.product(orders, items):
        rest = [other for other in order if other != name]
        for other in orders:
            if [it for it in other if it != name] == rest:
                steps.append((order, other, price))
    prices = {one: 0}
    changed = True
    while changed:
        changed = False
        for order, other, price in steps:
            if order in prices and prices[order] + price < prices.get(other, prices[order] + price + 1):
                prices[other] = prices[order] + price
                changed = True
    return prices


def by_rows(items, one, other):
    """The least price that S5.2 tells."""
    book = Book("behind", items, [])
    return book.total() - dearest_of(book, rows_of([one, other]))


def plain_break(stock, told):
    """Whether a value with the right forms is a break, by plain walks."""
    items, conditions, one, other = told
    if any(table not in stock for table, _ in conditions):
        return False
    orders = plain_let(items, conditions)
    if one not in orders or other not in orders:
        return False
    return plain_walks(items, conditions, one).get(other) != by_rows(items, one, other)


def is_never(stock):
    """Whether a stock is never dearer, as S6.3 tells it."""
    return any(all(side in SIDES_OF[table] for table in stock) for side in ("behind", "ahead"))


def drawn_conditions(count, seed, names="abcde"):
    """Items and conditions of any tables."""
    draw = random.Random(seed)
    for _ in range(count):
        many = draw.randrange(3, len(names) + 1)
        items = [(name, draw.choice([0, 1, 1, 2, 3, 10 ** 30])) for name in draw.sample(names[:many], many)]
        yield items, [
            (draw.choice(all_tables()), tuple(draw.sample(names[:many], 3))) for _ in range(draw.randrange(3))
        ]


class Breaks(unittest.TestCase):
    def check_form(self, stock, told):
        """What is told has the forms of S6.4, all of tuples."""
        self.assertIs(told.__class__, tuple)
        items, conditions, one, other = told
        self.assertLessEqual(len(items), 4)
        self.assertLessEqual(len(conditions), 2)
        names = [name for name, _ in items]
        for member in (items, conditions, one, other, *items, *conditions, *[it[1] for it in conditions]):
            self.assertIs(member.__class__, tuple)
        for table, three in conditions:
            self.assertIn(table, stock)
            self.assertEqual(len(set(three)), 3)
            self.assertLessEqual(set(three), set(names))
        for order in (one, other):
            self.assertEqual(sorted(order), sorted(names))

    def check_break(self, stock):
        """A break is found just if the stock is not never dearer."""
        told = find_break(stock)
        if is_never(stock):
            self.assertIsNone(told)
        else:
            self.check_form(stock, told)
            self.assertTrue(plain_break(stock, told))
            self.assertIs(judge_break(stock, told), True)
        self.assertEqual(find_break(list(stock)), told)


class TestFindBreak(Breaks):
    def test_no_tables(self):
        self.check_break([])
        self.check_break(())

    def test_single_tables(self):
        for table in all_tables():
            self.check_break([table])
            self.check_break([table, table])

    def test_pairs_of_tables(self):
        begun = time.perf_counter()
        for stock in itertools.combinations(all_tables(), 2):
            told = find_break(stock)
            self.assertEqual(told is None, is_never(stock))
            self.assertTrue(told is None or judge_break(stock, told))
        self.assertLess(time.perf_counter() - begun, 30)

    def test_pairs_of_sides(self):
        tables = [table for table in all_tables() if SIDES_OF[table]]
        for stock in itertools.permutations(tables, 2):
            if not is_never(stock):
                self.check_break(stock)

    def test_drawn_stocks(self):
        for stock in drawn_stocks(120, seed=10):
            self.check_break(stock)

    def test_a_side_and_a_table_of_none(self):
        for first, second in itertools.product([X_NOT_LAST, Y_NOT_FIRST, WORDS], [TURN, NO_SIDE]):
            self.check_break([first, second])
            self.check_break([second, first])


class TestExamples(Breaks):
    def test_turn(self):
        items = (("a", 3), ("b", 1), ("c", 0))
        self.assertEqual(let_orders(items, [(TURN, ABC)]), [ABC, CBA])
        self.assertIsNone(walked_price(items, [(TURN, ABC)], ABC, CBA))
        self.assertIs(judge_break([TURN], (items, ((TURN, ABC),), ABC, CBA)), True)

    def test_one_condition_is_not_enough(self):
        for prices in itertools.product((1, 3), repeat=4):
            items = tuple(zip("abcd", prices))
            conditions = ((NO_SIDE, ABC),)
            for one, other in itertools.product(plain_let(items, conditions), repeat=2):
                self.assertEqual(walked_price(items, conditions, one, other), by_rows(items, one, other))
                self.assertIs(judge_break([NO_SIDE], (items, conditions, one, other)), False)

    def test_two_conditions_are_enough(self):
        conditions = ((NO_SIDE, ABC), (NO_SIDE, ("b", "c", "d")))
        found = 0
        for prices in itertools.product((1, 3), repeat=4):
            items = tuple(zip("abcd", prices))
            for one, other in itertools.product(plain_let(items, conditions), repeat=2):
                price = walked_price(items, conditions, one, other)
                told = judge_break([NO_SIDE], (items, conditions, one, other))
                self.assertIs(told, price != by_rows(items, one, other))
                found += told
        self.assertGreater(found, 0)

    def test_y_between(self):
        conditions = ((Y_NOT_FIRST, ABC), (Y_NOT_LAST, ABC))
        stock = [Y_NOT_FIRST, Y_NOT_LAST]
        self.assertEqual(let_orders(ITEMS, conditions), [ABC, CBA])
        self.assertIs(judge_break(stock, (ITEMS, conditions, ABC, CBA)), True)
        self.assertIs(judge_break(stock[:1], (ITEMS, conditions, ABC, CBA)), False)
        self.assertIsNone(find_break([Y_NOT_FIRST, X_AHEAD_OF_Z]))
        self.assertIsNone(find_break([X_NOT_LAST]))


class TestJudgeBreak(Breaks):
    def judge(self, *value, stock=(TURN, X_NOT_LAST)):
        return judge_break(stock, value)

    def test_right(self):
        self.assertIs(self.judge(*TURNED), True)
        self.assertIs(self.judge(ITEMS, ((TURN, ABC), (TURN, ABC)), CBA, ABC), True)
        self.assertIs(self.judge(ITEMS, ((TURN, ABC), (TURN, CBA)), CBA, ABC), True)
        self.assertIs(self.judge(ITEMS, ((TURN, CBA),), *TURNED[2:], stock=[TURN]), True)
        four = (*ITEMS, ("d", 10 ** 39))
        self.assertIs(self.judge(four, ((TURN, ABC),), ("d", *ABC), (*CBA, "d")), True)

    def test_no_break(self):
        self.assertIs(self.judge(ITEMS, (), ABC, CBA), False)
        self.assertIs(self.judge((), (), (), ()), False)
        self.assertIs(self.judge(ITEMS, ((TURN, ABC),), ABC, ABC), False)
        self.assertIs(self.judge(ITEMS, ((X_NOT_LAST, ABC),), ABC, CBA[::-1]), False)
        self.assertIs(self.judge((("a", 1), ("b", 1)), (), ("a", "b"), ("b", "a")), False)

    def test_something_otherwise(self):
        for k, others in enumerate((
            (ITEMS[:2], (*ITEMS, ("c", 1)), (*ITEMS, ("d", 1)), (("a", 1), ("b", 1), ("a", 1)),
             (("a", 1), ("b", 1), ("c", -1)), (("a", 1), ("b", 1), ("c", True)), (("a", 1), ("b", 1), "c1"),
             (("a", 1), ("b", 1), ("C", 1)), (("a", 1), ("b", 1), ["c", 1]), list(ITEMS),
             (("a", 1), ("b", 1), ("c",)), (("a", 1), ("b", 1), ("d", 1))),
            (((TURN, ABC),) * 3, [(TURN, ABC)], ((list(TURN), ABC),), ((TURN, list(ABC)),), ([TURN, ABC],),
             ((TURN[::-1], ABC),), ((("xyz",), ABC),), ((TURN, ("a", "b")),), ((TURN, ("a", "b", "d")),),
             ((TURN, ("a", "b", "b")),), ((TURN, (*ABC, "a")),), ((TURN,),), ((TURN, ABC, ABC),), (TURN, ABC),
             ((TURN, "abc"),), ((None, ABC),), ((TURN, ABC), None), ((TURN, ("a", "b", ["c"])),)),
            (list(ABC), ABC[:2], (*ABC, "a"), ("b", "a", "c"), "abc", ("a", "b", "d"), ("a", "b", "b")),
            (list(CBA), CBA[:2], (*CBA, "a"), ("b", "a", "c"), "cba", ("c", "b", "d"), ("c", "b", 0), ABC),
        )):
            for other in others + ODD:
                told = (*TURNED[:k], other, *TURNED[k + 1:])
                self.assertIs(self.judge(*told), False, repr(told))

    def test_five_items_and_three_conditions(self):
        five = (*ITEMS, ("d", 1), ("e", 1))
        self.assertIs(self.judge(five, ((TURN, ABC),), (*ABC, "d", "e"), (*CBA, "d", "e")), False)
        self.assertIs(self.judge(ITEMS, ((TURN, ABC),) * 3, ABC, CBA), False)

    def test_a_condition_at_four_names(self):
        four = (*ITEMS, ("d", 1))
        for three in (("a", "b", "c", "d"), ("a", "b"), ("d", "a", "b", "c")):
            self.assertIs(self.judge(four, ((TURN, three),), (*ABC, "d"), (*CBA, "d")), False)
            self.assertIs(self.judge(four, ((TURN, ABC), (TURN, three)), (*ABC, "d"), (*CBA, "d")), False)

    def test_a_table_that_is_not_of_the_stock(self):
        for stock in ([], [X_NOT_LAST], [WORDS, NO_SIDE], [TURN[:1], TURN[1:]]):
            self.assertIs(self.judge(*TURNED, stock=stock), False)

    def test_values_of_any_kind(self):
        for value in ODD + (
            TURNED[:3], (*TURNED, ()), list(TURNED), (TURNED,), "abcd", {0: ITEMS}, (None,) * 4, ((),) * 4,
            ([],) * 4, (1, 2, 3, 4),
        ):
            self.assertIs(judge_break([TURN], value), False, repr(value))
            self.assertIs(judge_break([], value), False, repr(value))

    def test_against_plain_walks(self):
        draw = random.Random(11)
        told = {True: 0, False: 0}
        for items, conditions in drawn_conditions(400, seed=12, names="abcd"):
            orders = plain_let(items, conditions)
            stock = [table for table, _ in conditions] or [WORDS]
            for _ in range(3 if orders else 0):
                value = (tuple(items), tuple(conditions), draw.choice(orders), draw.choice(orders))
                self.assertIs(judge_break(stock, value), plain_break(stock, value))
                told[plain_break(stock, value)] += 1
        self.assertGreater(min(told.values()), 20)


class TestLetOrders(unittest.TestCase):
    def test_few_items(self):
        self.assertEqual(let_orders([], []), [()])
        self.assertEqual(let_orders((), ()), [()])
        self.assertEqual(let_orders([("a", 5)], []), [("a",)])
        self.assertEqual(let_orders([("b", 5), ("a", 5)], []), [("b", "a"), ("a", "b")])

    def test_ascending_by_the_items(self):
        items = [("c", 1), ("a", 1), ("b", 1)]
        self.assertEqual(let_orders(items, [(X_AHEAD_OF_Z, ABC)]), [
            ("a", "c", "b"), ("a", "b", "c"), ("b", "a", "c"),
        ])

    def test_opposite_words(self):
        self.assertEqual(let_orders(ITEMS, [(("xyz",), ABC), (("zyx",), ABC)]), [])
        self.assertEqual(let_orders(ITEMS, [(("xyz",), ABC), (("zyx",), CBA)]), [ABC])

    def test_drawn(self):
        for items, conditions in drawn_conditions(150, seed=13):
            found = let_orders(items, conditions)
            self.assertEqual(found, plain_let(items, conditions))
            self.assertEqual(let_orders(tuple(items), tuple(conditions)), found)


class TestWalkedPrice(unittest.TestCase):
    def test_there_and_back(self):
        for items, conditions in drawn_conditions(60, seed=14):
            orders = let_orders(items, conditions)
            for one in orders[:3]:
                prices = plain_walks(items, conditions, one)
                for other in orders[::7]:
                    price = walked_price(items, conditions, one, other)
                    self.assertEqual(price, prices.get(other))
                    self.assertEqual(walked_price(items, conditions, other, one), price)
                self.assertEqual(walked_price(items, conditions, one, one), 0)

    def test_few_items(self):
        self.assertEqual(walked_price([], [], (), ()), 0)
        self.assertEqual(walked_price([("a", 7)], [], ("a",), ("a",)), 0)
        self.assertEqual(walked_price([("a", 7), ("b", 5)], [], ("a", "b"), ("b", "a")), 5)

    def test_none_leads(self):
        free = [("d", 0), *ITEMS]
        self.assertIsNone(walked_price(free, [(TURN, ABC)], (*ABC, "d"), ("d", *CBA)))
        self.assertEqual(walked_price(free, [(TURN, ABC)], (*ABC, "d"), ("d", *ABC)), 0)


class TestNothingChanged(unittest.TestCase):
    def test_arguments_stay(self):
        stock, items, conditions = [TURN, WORDS], list(ITEMS), [(TURN, ABC)]
        value = [list(TURNED)]
        with Untouched(self, stock, items, conditions, value):
            find_break(stock)
            judge_break(stock, TURNED)
            judge_break(stock, value)
            judge_break(stock, (value, value, value, value))
            let_orders(items, conditions)
            walked_price(items, conditions, ABC, CBA)

    def test_new_and_equal_each_time(self):
        first = let_orders(ITEMS, [])
        first.clear()
        self.assertEqual(len(let_orders(ITEMS, [])), 6)
        for stock in ([TURN], [NO_SIDE], [Y_NOT_FIRST, Y_NOT_LAST]):
            self.assertEqual(find_break(stock), find_break(copy.deepcopy(stock)))


if __name__ == "__main__":
    unittest.main()
