"""Scripts that leave a row standing (S5.1), and the orders on their way (S8.2)."""

import itertools
import random
import time
import unittest

from samples import (
    Untouched, all_sayings, book_b, book_with, drawn_books, great_pair, kept, orders_of, read_together,
    rows_of,
)
from test_deeds import plain_moved
from takenout.books import Book
from takenout.rowscripts import row_script

F = ("a", "c", "d", "b")
G = ("b", "c", "d", "a")
SIDES = ("behind", "ahead")


class Scripts(unittest.TestCase):
    def check_script(self, book, one, other, row, script):
        """A script leads from one order to the other by orders of the book and leaves a row standing."""
        self.assertIs(script.__class__, list)
        taken = sorted(name for name, _ in script)
        self.assertEqual(taken, sorted(name for name in one if name not in row))
        at = one
        for deed in script:
            self.assertIs(deed.__class__, tuple)
            name, place = deed
            self.assertTrue(place is None or place in at and place != name)
            at = plain_moved(at, deed)
            for saying in book.sayings():
                self.assertTrue(kept(book.side(), at, saying), (one, other, row, script, saying))
            self.assertTrue(read_together(book.side(), [one, other], at))
        self.assertEqual(at, other)


class TestExamples(Scripts):
    def test_b(self):
        for row in ((), ("a",), ("b",), ("c",), ("d",), ("c", "d")):
            script = row_script(book_b(), F, G, row)
            self.check_script(book_b(), F, G, row, script)
            self.assertEqual(len(script), 4 - len(row))

    def test_to_itself(self):
        self.assertEqual(row_script(book_b(), F, F, F), [])
        for row in rows_of([F]):
            self.check_script(book_b(), F, F, row, row_script(book_b(), F, F, row))

    def test_edges(self):
        for side in SIDES:
            self.assertEqual(row_script(Book(side, [], []), (), (), ()), [])
            one = Book(side, [("a", 4)], [])
            self.assertEqual(row_script(one, ("a",), ("a",), ()), [("a", None)])
            self.assertEqual(row_script(one, ("a",), ("a",), ("a",)), [])


class TestSmallBooks(Scripts):
    def test_all_pairs_and_rows(self):
        found = set()
        for book in drawn_books(60, seed=80):
            found.add(book.side())
            for one, other in itertools.product(orders_of(book), repeat=2):
                for row in rows_of([one, other]):
                    self.check_script(book, one, other, row, row_script(book, one, other, row))
        self.assertEqual(found, set(SIDES))

    def test_in_the_book_of_all_sayings_that_both_keep(self):
        first = tuple("abcd")
        for side, other in itertools.product(SIDES, itertools.permutations("abcd")):
            sayings = [
                saying for saying in all_sayings("abcd")
                if kept(side, first, saying) and kept(side, other, saying)
            ]
            book = book_with("abcd", sayings, side)
            for row in rows_of([first, other]):
                self.check_script(book, first, other, row, row_script(book, first, other, row))

    def test_five_items(self):
        draw = random.Random(81)
        for book in drawn_books(60, seed=82, names="abcde", most=5):
            orders = orders_of(book)
            for _ in range(min(len(orders), 6)):
                one, other = draw.choice(orders), draw.choice(orders)
                for row in rows_of([one, other]):
                    self.check_script(book, one, other, row, row_script(book, one, other, row))


class TestGreatBooks(Scripts):
    def test_forty_items(self):
        draw = random.Random(83)
        for side, seed, moves in itertools.product(SIDES, range(4), (None, 5)):
            book, one, other = great_pair(side, seed, moves=moves)
            row = ()
            for name in draw.sample(one, 40):
                longer = tuple(it for it in one if it in row or it == name)
                if [it for it in other if it in longer] == list(longer) and draw.random() < 0.7:
                    row = longer
            for standing in ((), row[:1], row[-2:], row[::2], row):
                begun = time.perf_counter()
                script = row_script(book, one, other, standing)
                self.assertLess(time.perf_counter() - begun, 2)
                self.check_script(book, one, other, standing, script)

    def test_twelve_items_and_all_that_both_keep(self):
        draw = random.Random(84)
        names = "abcdefghijkl"
        for side in SIDES:
            for _ in range(6):
                one, other = tuple(draw.sample(names, 12)), tuple(draw.sample(names, 12))
                sayings = [
                    (name, some)
                    for name in names
                    for size in (1, 2, 3)
                    for some in itertools.combinations([it for it in names if it != name], size)
                    if kept(side, one, (name, some)) and kept(side, other, (name, some))
                ]
                book = book_with(names, sayings, side)
                rows = rows_of([one, other])
                for row in draw.sample(rows, min(len(rows), 5)):
                    self.check_script(book, one, other, row, row_script(book, one, other, row))


class TestNothingChanged(Scripts):
    def test_new_each_time(self):
        book = book_b()
        with Untouched(self, F, G):
            told = row_script(book, F, G, ("c", "d"))
        again = list(told)
        told.clear()
        self.assertEqual(row_script(book, F, G, ("c", "d")), again)
        self.assertEqual(book, book_b())


if __name__ == "__main__":
    unittest.main()
