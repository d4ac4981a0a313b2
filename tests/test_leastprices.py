"""Least prices, cheapest scripts and price papers (S5.2, S5.3, S5.6)."""

import itertools
import time
import unittest

from samples import (
    ODD, Untouched, book_b, book_with, dearest_of, drawn_books, great_pair, orders_of, rows_of,
)
from test_rowscripts import Scripts
from takenout.books import Book, mirrored_book
from takenout.leastprices import cheapest_script, judge_price, least_price, price_paper
from takenout.orders import mirrored_order
from takenout.plainwalks import walk_prices
from takenout.times import judge_times

F = ("a", "c", "d", "b")
G = ("b", "c", "d", "a")
SCRIPT = [("b", None), ("a", "d")]
TIMES = [0, 0, 0, 3]
SIDES = ("behind", "ahead")


class Prices(Scripts):
    def check_cheapest(self, book, one, other, price):
        """A cheapest script leads from one order to the other, with at most one deed of each item."""
        script = cheapest_script(book, one, other)
        taken = [name for name, _ in script]
        self.assertEqual(len(taken), len(set(taken)))
        self.check_script(book, one, other, tuple(name for name in one if name not in taken), script)
        self.assertEqual(sum(book.price(name) for name in taken), price)


class TestExamples(Prices):
    def test_b(self):
        self.assertEqual(least_price(book_b(), F, G), 3)
        self.check_cheapest(book_b(), F, G, 3)
        self.assertIsNone(judge_price(book_b(), F, G, (SCRIPT, TIMES)))

    def test_sayings_left_out(self):
        for side in SIDES:
            book = Book(side, book_b().all_items(), [])
            self.assertEqual(least_price(book, F, G), 3)
            self.assertIsNone(judge_price(book, F, G, (SCRIPT, TIMES)))

    def test_to_itself(self):
        self.assertEqual(least_price(book_b(), F, F), 0)
        self.check_cheapest(book_b(), F, F, 0)
        self.assertEqual(cheapest_script(book_b(), F, F), [])

    def test_edges(self):
        for side in SIDES:
            book = Book(side, [], [])
            self.assertEqual(least_price(book, (), ()), 0)
            self.assertEqual(cheapest_script(book, (), ()), [])
            self.assertEqual(price_paper(book, (), ()), ([], []))
            self.assertIsNone(judge_price(book, (), (), ([], [])))


class TestLeastPrices(Prices):
    def test_against_plain_walks(self):
        for book in drawn_books(60, seed=90):
            for one in orders_of(book)[:6]:
                for other, price in walk_prices(book, one):
                    self.assertEqual(least_price(book, one, other), price)
                    self.check_cheapest(book, one, other, price)

    def test_five_items_against_plain_walks(self):
        for book in drawn_books(20, seed=91, names="abcde", most=4):
            for one in orders_of(book)[:1]:
                for other, price in walk_prices(book, one)[::3]:
                    self.assertEqual(least_price(book, one, other), price)
                    self.check_cheapest(book, one, other, price)

    def test_the_same_in_other_books(self):
        for book in drawn_books(40, seed=92):
            for one, other in itertools.combinations(orders_of(book)[:7], 2):
                price = least_price(book, one, other)
                for side in SIDES:
                    self.assertEqual(least_price(Book(side, book.all_items(), []), one, other), price)
                turned = mirrored_book(book)
                ends = (mirrored_order(one), mirrored_order(other))
                self.assertEqual(least_price(turned, *ends), price)
                self.check_cheapest(turned, *ends, price)
                self.assertEqual(least_price(book, other, one), price)

    def test_by_way_of_a_third(self):
        for book in drawn_books(30, seed=93):
            for one, two, three in itertools.permutations(orders_of(book)[:5], 3):
                by_two = least_price(book, one, two) + least_price(book, two, three)
                self.assertLessEqual(least_price(book, one, three), by_two)

    def test_great_and_no_prices(self):
        book = book_with("abc", [], "ahead", [10 ** 30, 0, 10 ** 30 - 1])
        self.assertEqual(least_price(book, ("a", "b", "c"), ("c", "b", "a")), 10 ** 30 - 1)
        self.check_cheapest(book, ("a", "b", "c"), ("c", "b", "a"), 10 ** 30 - 1)
        nothing = book_with("abc", [], "ahead", [0, 0, 0])
        self.assertEqual(least_price(nothing, ("a", "b", "c"), ("c", "b", "a")), 0)
        self.check_cheapest(nothing, ("a", "b", "c"), ("c", "b", "a"), 0)


class TestPricePaper(Prices):
    def test_what_it_tells(self):
        for book in drawn_books(60, seed=94):
            for one, other in itertools.product(orders_of(book)[:5], repeat=2):
                paper = price_paper(book, one, other)
                self.assertIs(paper.__class__, tuple)
                script, told = paper
                self.assertIs(script.__class__, list)
                self.assertIs(told.__class__, list)
                taken = [name for name, _ in script]
                row = tuple(name for name in one if name not in taken)
                self.check_script(book, one, other, row, script)
                price = sum(book.price(name) for name in taken)
                span = judge_times(book, [one, other], told)
                self.assertEqual(span, dearest_of(book, rows_of([one, other])))
                self.assertEqual(price + span, book.total())
                self.assertIsNone(judge_price(book, one, other, paper))
                self.assertIsNone(judge_price(book, one, other, (tuple(script), tuple(told))))


class TestJudgePrice(unittest.TestCase):
    def judge(self, *value):
        return judge_price(book_b(), F, G, value)

    def test_right(self):
        for script in (SCRIPT, tuple(SCRIPT), SCRIPT[::1]):
            for told in (TIMES, tuple(TIMES), [6, 5, 0, 3]):
                self.assertIsNone(self.judge(script, told))
        self.assertIsNone(judge_price(book_b(), G, F, ([("a", None), ("b", "d")], TIMES)))
        self.assertIsNone(self.judge([("b", None), ("a", "d")], [0, 5, 0, 3]))

    def test_form(self):
        self.assertEqual(self.judge((), []), ("end",))
        for value in [odd for odd in ODD if odd != ((), [])] + [
            [SCRIPT, TIMES], (SCRIPT,), (SCRIPT, TIMES, []), (SCRIPT, None), (None, TIMES), ("", TIMES),
            (SCRIPT, ""), ({}, []), ([], {}), (book_b(), []), ([], book_b()), (True, False), "ab",
            {0: SCRIPT, 1: TIMES}, (SCRIPT, 7),
        ]:
            self.assertEqual(judge_price(book_b(), F, G, value), ("form",), repr(value))

    def test_script(self):
        for deed in (
            None, "ab", (), ("a",), ["b", None], ("b", None, None), ("e", None), (["a"], None),
            ("a", "a"), ("a", "e"), ("a", 0), ("c", None), {}, 5, True, book_b(),
        ):
            self.assertEqual(self.judge([deed], TIMES), ("script", 0), repr(deed))
            self.assertEqual(self.judge(SCRIPT + [deed, 0], TIMES), ("script", 2), repr(deed))
        self.assertEqual(self.judge(SCRIPT[::-1], TIMES), ("script", 0))
        self.assertEqual(self.judge((("b", None), ("c", None)), TIMES), ("script", 1))

    def test_end(self):
        self.assertEqual(self.judge([], TIMES), ("end",))
        self.assertEqual(self.judge(SCRIPT[:1], TIMES), ("end",))
        self.assertEqual(self.judge(SCRIPT + [("a", "b")], TIMES), ("end",))
        self.assertEqual(judge_price(book_b(), G, F, (SCRIPT[:0], TIMES)), ("end",))

    def test_times(self):
        for told in (
            [], [0, 0, 0], [0, 0, 0, 2], [0, 0, 0, 3, 0], [0, 0, 0, True], [0, 0, -1, 3], [None] * 4,
            ["0"] * 4, [False, 0, 0, 3], (), [[0], 0, 0, 3], [book_b()] * 4,
        ):
            self.assertEqual(self.judge(SCRIPT, told), ("times",), repr(told))

    def test_dearer(self):
        self.assertEqual(self.judge(SCRIPT, [0, 0, 0, 4]), ("dearer",))
        self.assertEqual(self.judge(SCRIPT, [0, 6, 0, 3]), ("dearer",))
        self.assertEqual(self.judge([("a", None)] + SCRIPT, TIMES), ("dearer",))
        self.assertEqual(self.judge([("d", "c")] + SCRIPT, TIMES), ("dearer",))
        self.assertEqual(self.judge([("d", "b"), ("c", "b"), ("a", "d")], TIMES), ("dearer",))
        # Times of an earlier span than the total less the price are none.
        self.assertEqual(self.judge([("a", None)] + SCRIPT, [0, 0, 0, 2]), ("times",))

    def test_first_of_two_faults(self):
        self.assertEqual(self.judge([0], None), ("form",))
        self.assertEqual(judge_price(book_b(), F, G, ([0], [], 0)), ("form",))
        self.assertEqual(self.judge([("b", None), 0], [None]), ("script", 1))
        self.assertEqual(self.judge([("c", None)], []), ("script", 0))
        self.assertEqual(self.judge(SCRIPT[:1], []), ("end",))
        self.assertEqual(self.judge(SCRIPT[:1], [0, 9, 0, 3]), ("end",))
        self.assertEqual(self.judge([("a", None)] + SCRIPT, []), ("times",))

    def test_each_order_with_its_own_papers(self):
        for book in drawn_books(30, seed=95):
            orders = orders_of(book)[:5]
            for one, other, third in itertools.product(orders, repeat=3):
                script, told = price_paper(book, one, other)
                if third != other:
                    answer = judge_price(book, one, third, (script, told))
                    self.assertEqual(answer, ("end",))

    def test_great_numbers(self):
        book = book_with("ab", [], prices=[10 ** 30, 10 ** 30 + 1])
        self.assertIsNone(judge_price(book, ("a", "b"), ("b", "a"), ([("a", "b")], [0, 0])))
        self.assertEqual(judge_price(book, ("a", "b"), ("b", "a"), ([("b", None)], [0, 0])), ("dearer",))
        late = ([("a", "b")], [10 ** 39, 0])
        self.assertEqual(judge_price(book, ("a", "b"), ("b", "a"), late), ("dearer",))


class TestGreatBooks(Prices):
    def test_forty_items(self):
        for side, seed, moves in itertools.product(SIDES, range(3), (None, 6)):
            book, one, other = great_pair(side, 20 + seed, moves=moves)
            begun = time.perf_counter()
            price = least_price(book, one, other)
            paper = price_paper(book, one, other)
            self.assertIsNone(judge_price(book, one, other, paper))
            self.assertLess(time.perf_counter() - begun, 2)
            self.check_cheapest(book, one, other, price)
            self.assertEqual(least_price(book, other, one), price)


class TestNothingChanged(unittest.TestCase):
    def test_arguments_stay(self):
        value, odd = (list(SCRIPT), list(TIMES)), ([("b", None), ["a", None]], [[]])
        book = book_b()
        with Untouched(self, F, G, value, odd):
            least_price(book, F, G)
            cheapest_script(book, F, G)
            price_paper(book, F, G)
            judge_price(book, F, G, value)
            judge_price(book, F, G, odd)
        self.assertEqual(book, book_b())

    def test_new_each_time(self):
        script, told = price_paper(book_b(), F, G)
        again = (list(script), list(told))
        self.assertIsNot(script, told)
        script.clear()
        told.clear()
        self.assertEqual(price_paper(book_b(), F, G), again)
        first = cheapest_script(book_b(), F, G)
        kept_script = list(first)
        first.clear()
        self.assertEqual(cheapest_script(book_b(), F, G), kept_script)
        self.assertEqual(price_paper(Book("behind", [], []), (), ()), ([], []))
        empty = price_paper(Book("behind", [], []), (), ())
        self.assertIsNot(empty[0], empty[1])


if __name__ == "__main__":
    unittest.main()
