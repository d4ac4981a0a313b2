"""Times for orders and their span (S4.2)."""

import random
import time
import unittest

from samples import ODD, Untouched, book_b, book_with, dearest_of, drawn_orders, great_orders, rows_of
from takenout.books import Book
from takenout.rows import dearest_price
from takenout.times import judge_times, times

F = ("a", "c", "d", "b")
G = ("b", "c", "d", "a")


def plain_span(book, orders, told):
    """The span of a list of integers of at least 0, or None if they are no times, as S4.2 says it."""
    prices = dict(book.all_items())
    at = dict(zip(book.names(), told))
    for one in prices:
        for other in prices:
            if one != other and all(order.index(one) < order.index(other) for order in orders):
                if at[other] < at[one] + prices[one]:
                    return None
    return max([at[name] + prices[name] for name in prices], default=0)


class TestExamples(unittest.TestCase):
    def test_b(self):
        self.assertEqual(times(book_b(), [F, G]), [0, 0, 0, 3])
        self.assertEqual(judge_times(book_b(), [F, G], [0, 0, 0, 3]), 7)

    def test_one_order_alone(self):
        self.assertEqual(times(book_b(), [F]), [0, 8, 1, 4])
        self.assertEqual(judge_times(book_b(), [F], [0, 8, 1, 4]), 10)
        self.assertIsNone(judge_times(book_b(), [F], [0, 0, 0, 3]))

    def test_without_items(self):
        book = Book("ahead", [], [])
        self.assertEqual(times(book, [()]), [])
        for value in ([], ()):
            self.assertEqual(judge_times(book, [(), ()], value), 0)
        self.assertIsNone(judge_times(book, [()], [0]))


class TestTimes(unittest.TestCase):
    def test_span_is_the_price_of_a_dearest_row(self):
        for book, orders in drawn_orders(200, seed=60):
            told = times(book, orders)
            self.assertIs(told.__class__, list)
            self.assertTrue(all(one.__class__ is int and one >= 0 for one in told))
            price = dearest_of(book, rows_of(orders))
            self.assertEqual(plain_span(book, orders, told), price)
            self.assertEqual(judge_times(book, orders, told), price)

    def test_in_the_order_of_the_items(self):
        book = book_with("cab", [], prices=[1, 2, 4])
        self.assertEqual(times(book, [("a", "b", "c")]), [6, 0, 2])

    def test_twelve_orders_of_forty_names(self):
        for many in (1, 2, 12):
            book, orders = great_orders(many, seed=61)
            begun = time.perf_counter()
            told = times(book, orders)
            span = judge_times(book, orders, told)
            self.assertLess(time.perf_counter() - begun, 2)
            self.assertEqual(span, dearest_price(book, orders))


class TestJudge(unittest.TestCase):
    def test_drawn_lists(self):
        draw = random.Random(62)
        right = 0
        for book, orders in drawn_orders(200, seed=63):
            for _ in range(4):
                # Later and later times, one of them moved a bit.
                told = [one + draw.choice([0, 0, 1]) for one in times(book, orders)]
                if told:
                    at = draw.randrange(len(told))
                    told[at] = max(0, told[at] + draw.choice([-1, 0, 1, 10 ** 31]))
                expected = plain_span(book, orders, told)
                right += expected is not None
                self.assertEqual(judge_times(book, orders, told), expected)
                self.assertEqual(judge_times(book, orders, tuple(told)), expected)
        self.assertTrue(200 < right < 790)

    def test_later_times(self):
        self.assertEqual(judge_times(book_b(), [F, G], [5, 0, 0, 3]), 7)
        self.assertEqual(judge_times(book_b(), [F, G], [100, 0, 0, 3]), 101)
        self.assertEqual(judge_times(book_b(), [F, G], [0, 0, 10, 13]), 17)
        self.assertEqual(judge_times(book_b(), [F, G], [0, 0, 0, 10 ** 39]), 10 ** 39 + 4)

    def test_one_too_early(self):
        self.assertIsNone(judge_times(book_b(), [F, G], [0, 0, 0, 2]))
        self.assertIsNone(judge_times(book_b(), [F, G], [0, 0, 1, 3]))
        for at, least in enumerate([0, 8, 1, 4]):
            told = [0, 8, 1, 4]
            told[at] = least - 1
            self.assertIsNone(judge_times(book_b(), [F], told))
        self.assertIsNone(judge_times(book_b(), [F, G], (0, 0, 2, 4)))

    def test_one_time_at_a_price_of_0(self):
        book = book_with("ab", [], prices=[0, 5])
        self.assertEqual(judge_times(book, [("a", "b")], [3, 3]), 8)
        self.assertIsNone(judge_times(book, [("a", "b")], [3, 2]))

    def test_too_many_or_too_few(self):
        for told in ([], [0], [0, 0, 0], [0, 0, 0, 3, 0], [0, 0, 0, 3, None], ()):
            self.assertIsNone(judge_times(book_b(), [F, G], told))

    def test_other_kinds(self):
        for value in ODD + ("0003", {0: 0, 1: 0, 2: 0, 3: 3}, {"a": 0, "b": 0, "c": 0, "d": 3}):
            self.assertIsNone(judge_times(book_b(), [F, G], value), repr(value))
        for member in (True, False, None, -1, -(10 ** 39), "0", "", (), [], {}, (0,), [0], book_b()):
            for at in range(4):
                told = [0, 0, 0, 3]
                told[at] = member
                self.assertIsNone(judge_times(book_b(), [F, G], told), repr(member))
                self.assertIsNone(judge_times(book_b(), [F, G], tuple(told)), repr(member))

    def test_every_order_counts(self):
        self.assertIsNone(judge_times(book_b(), [F, F], [0, 0, 0, 3]))
        self.assertEqual(judge_times(book_b(), [F, F, G], [0, 0, 0, 3]), 7)
        self.assertEqual(judge_times(book_b(), [F, F[::-1]], [0, 0, 0, 0]), 4)


class TestNothingChanged(unittest.TestCase):
    def test_arguments_stay(self):
        orders, value, odd = [F, G], [0, 0, 0, 3], [0, [0], {}, 3]
        with Untouched(self, orders, value, odd):
            times(book_b(), orders)
            judge_times(book_b(), orders, value)
            judge_times(book_b(), orders, odd)
            judge_times(book_b(), orders, orders)

    def test_lists_that_change_between_two_calls(self):
        book, orders, told = book_b(), [F, G], [0, 0, 0, 3]
        self.assertEqual(judge_times(book, orders, told), 7)
        told[0] = 9
        self.assertEqual(judge_times(book, orders, told), 10)
        orders.pop()
        self.assertIsNone(judge_times(book, orders, told))
        self.assertEqual(times(book, orders), [0, 8, 1, 4])
        orders.append(F[::-1])
        self.assertEqual(times(book, orders), [0, 0, 0, 0])

    def test_new_each_time(self):
        first = times(book_b(), (F, G))
        first.clear()
        self.assertEqual(times(book_b(), (F, G)), [0, 0, 0, 3])


if __name__ == "__main__":
    unittest.main()
