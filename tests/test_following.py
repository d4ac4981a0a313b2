"""What follows from a book, and lean books (S2.3, S2.4)."""

import itertools
import unittest

from samples import ODD, Untouched, all_sayings, book_b, book_with, drawn_books, kept, orders_of
from takenout.books import Book, with_sayings
from takenout.following import against, follow_paper, follows, judge_follow, lean_book

SIDES = ("behind", "ahead")


def books_with_orders(count, seed, names="abcd"):
    """Drawn books that have an order, each with the list of its orders."""
    for book in drawn_books(count, seed, names):
        orders = orders_of(book)
        if orders:
            yield book, orders


def is_paper(book, saying, names):
    """Whether names are a follow paper, said as S2.3 says it."""
    a, some = saying
    return a in names and not set(some) & set(names) and all(
        any(it == name and set(rest) <= set(names) | set(some) for it, rest in book.sayings())
        for name in names
    )


def all_follow(orders, side, saying):
    """Whether all orders keep a saying."""
    return all(kept(side, order, saying) for order in orders)


class TestExamples(unittest.TestCase):
    def test_of_b(self):
        for side in SIDES:
            book = book_b(side)
            self.assertIs(follows(book, ("d", ("a", "b"))), True)
            self.assertEqual(follow_paper(book, ("d", ("a", "b"))), ["c", "d"])
            self.assertIs(judge_follow(book, ("d", ("a", "b")), ["c", "d"]), True)
            self.assertIsNone(against(book, ("d", ("a", "b"))))
            self.assertIs(follows(book, ("d", ("a",))), False)
            self.assertIsNone(follow_paper(book, ("d", ("a",))))
            order = ("b", "c", "d", "a") if side == "behind" else ("a", "d", "c", "b")
            self.assertIn(order, orders_of(book))
            self.assertFalse(kept(side, order, ("d", ("a",))))

    def test_of_a_chain(self):
        for side in SIDES:
            book = book_with("abc", [("c", ("a", "b")), ("b", ("a",))], side)
            self.assertIs(follows(book, ("c", ("a",))), True)
            self.assertEqual(follow_paper(book, ("c", ("a",))), ["b", "c"])

    def test_lean(self):
        three = [("c", ("a", "b")), ("b", ("a",)), ("c", ("a",))]
        for side in SIDES:
            lean = lean_book(book_with("abc", three, side)).sayings()
            self.assertIn(lean, [three[:2], three[1:]])


class TestFollows(unittest.TestCase):
    def test_against_all_orders(self):
        answers = []
        for book, orders in books_with_orders(120, seed=10):
            for saying in all_sayings("abcd"):
                expected = all_follow(orders, book.side(), saying)
                self.assertIs(follows(book, saying), expected)
                self.assertIs(follows(book, (saying[0], saying[1][::-1])), expected)
                answers.append(expected)
        self.assertTrue(answers.count(True) > 100 < answers.count(False))

    def test_own_sayings(self):
        for book, _ in books_with_orders(60, seed=11):
            for saying in book.sayings():
                self.assertIs(follows(book, saying), True)

    def test_without_sayings(self):
        for saying in all_sayings("abc"):
            self.assertIs(follows(book_with("abc", []), saying), False)


class TestFollowPaper(unittest.TestCase):
    def test_right_ones(self):
        for book, orders in books_with_orders(120, seed=12):
            for saying in all_sayings("abcd"):
                paper = follow_paper(book, saying)
                if all_follow(orders, book.side(), saying):
                    self.assertIs(paper.__class__, list)
                    self.assertTrue(is_paper(book, saying, paper))
                    self.assertEqual(paper, [name for name in book.names() if name in paper])
                else:
                    self.assertIsNone(paper)

    def test_in_the_order_of_the_items(self):
        book = book_with("zyxw", [("w", ("x",)), ("z", ("w",)), ("y", ("z",))])
        paper = follow_paper(book, ("y", ("x",)))
        self.assertEqual(paper, ["z", "y", "w"])


class TestJudgeFollow(unittest.TestCase):
    def test_each_set(self):
        for book, _ in books_with_orders(60, seed=13):
            for saying in all_sayings("abcd"):
                for size in range(5):
                    for names in itertools.permutations("abcd", size):
                        expected = is_paper(book, saying, names)
                        self.assertIs(judge_follow(book, saying, names), expected)
                        self.assertIs(judge_follow(book, saying, list(names)), expected)

    def test_more_less_or_otherwise(self):
        saying = ("d", ("a", "b"))
        self.assertIs(judge_follow(book_b(), saying, ("d", "c")), True)
        for value in (
            [], ["d"], ["c"], ["c", "d", "a"], ["c", "d", "b"], ["a", "d"], ["c", "d", "c"],
            ["c", "d", "d"], ["c", "d", "e"], ["c", "d", None], ["c", ["d"]],
        ):
            self.assertIs(judge_follow(book_b(), saying, value), False, repr(value))

    def test_values_of_any_kind(self):
        for value in ODD + ("cd", {"c": 1, "d": 1}, [["c", "d"]], ("c", "d", 0), ("c", "d", True)):
            self.assertIs(judge_follow(book_b(), ("d", ("a", "b")), value), False, repr(value))


class TestAgainst(unittest.TestCase):
    def test_on_both_sides(self):
        for book, orders in books_with_orders(120, seed=14):
            for saying in all_sayings("abcd"):
                order = against(book, saying)
                if all_follow(orders, book.side(), saying):
                    self.assertIsNone(order)
                else:
                    self.assertIs(order.__class__, tuple)
                    self.assertIn(order, orders)
                    self.assertFalse(kept(book.side(), order, saying))


class TestLeanBook(unittest.TestCase):
    def check(self, book, orders):
        """What S2.4 says of the lean book of a book."""
        lean = lean_book(book)
        self.assertEqual((lean.side(), lean.all_items()), (book.side(), book.all_items()))
        self.assertEqual(orders_of(lean), orders)
        # "in" goes on in the iterator, so the sequence counts.
        rest = iter(book.sayings())
        self.assertTrue(all(saying in rest for saying in lean.sayings()))
        sayings = lean.sayings()
        for k, saying in enumerate(sayings):
            others = Book(book.side(), book.all_items(), sayings[:k] + sayings[k + 1:])
            self.assertFalse(all_follow(orders_of(others), book.side(), saying))

    def test_drawn_books(self):
        for book, orders in books_with_orders(200, seed=15):
            self.check(book, orders)

    def test_of_many_sayings(self):
        for side in SIDES:
            order = ("a", "b", "c", "d")
            sayings = [saying for saying in all_sayings("abcd") if kept(side, order, saying)]
            book = book_with("abcd", sayings + sayings, side)
            self.assertEqual(orders_of(book), [order])
            self.check(book, [order])
            self.assertEqual(len(lean_book(book).sayings()), 3)

    def test_same_saying_twice(self):
        saying = ("c", ("a", "b"))
        self.assertEqual(lean_book(book_with("abc", [saying, saying])).sayings(), [saying])
        turned = lean_book(book_with("abc", [saying, ("c", ("b", "a"))])).sayings()
        self.assertIn(turned, [[saying], [("c", ("b", "a"))]])

    def test_nothing_to_take_out(self):
        for side in SIDES:
            self.assertEqual(lean_book(book_b(side)), book_b(side))
            self.assertEqual(lean_book(Book(side, [], [])), Book(side, [], []))

    def test_of_40_items_and_60_sayings(self):
        names = [f"x{k}" for k in range(40)]
        chain = [(names[k], (names[k + 1],)) for k in range(39)]
        over = [(names[k], tuple(names[k + 1:k + 13])) for k in range(20)]
        book = Book("behind", [(name, 1) for name in names], over + chain)
        self.assertEqual(lean_book(book).sayings(), chain)


class TestNothingChanged(unittest.TestCase):
    def test_arguments_stay(self):
        saying, value, book = ("d", ("a", "b")), ["d", "c", ["a"]], book_b()
        with Untouched(self, saying, value):
            follows(book, saying)
            follow_paper(book, saying)
            judge_follow(book, saying, value)
            against(book, ("d", ("a",)))
            lean_book(book)
        self.assertEqual(book, book_b())

    def test_new_each_time(self):
        book, saying = book_b(), ("d", ("a", "b"))
        told = follow_paper(book, saying)
        told.clear()
        self.assertEqual(follow_paper(book, saying), ["c", "d"])

    def test_repeated(self):
        book = with_sayings(book_b(), [("d", ("a", "b")), ("d", ("b", "a"))])
        self.assertEqual(lean_book(book), lean_book(book))
        self.assertEqual(against(book, ("d", ("a",))), against(book, ("d", ("a",))))


if __name__ == "__main__":
    unittest.main()
