"""Books and their wrong parts (S1.1, S1.2, S1.6)."""

import unittest

from samples import ITEMS, ODD, SAYINGS, Untouched, book_b, raised
from takenout.books import Book, mirrored_book, with_sayings
from takenout.errors import BadBook, UnknownName


def path_of(side, items, sayings):
    """The path with which Book refuses its arguments."""
    return raised(BadBook, Book, side, items, sayings).path


class TestSide(unittest.TestCase):
    def test_wrong(self):
        for side in ODD + ("Behind", "behind ", "beside", ("behind",), ["ahead"]):
            self.assertEqual(path_of(side, list(ITEMS), []), (0,), repr(side))

    def test_told_first(self):
        self.assertEqual(path_of("x", None, None), (0,))

    def test_both_right(self):
        for side in ("behind", "ahead"):
            self.assertEqual(Book(side, [], []).side(), side)


class TestItems(unittest.TestCase):
    def path(self, *items):
        return path_of("ahead", list(items), [])

    def test_no_list(self):
        for items in (None, 0, True, "", "ab", {}, {"a": 1}, Book("ahead", [], [])):
            self.assertEqual(path_of("ahead", items, []), (1,), repr(items))

    def test_no_pair(self):
        for item in (None, 0, "ab", (), ("a",), ("a", 1, 1), ["a", 1], {"a": 1}, [], {}):
            self.assertEqual(self.path(item), (1, 0), repr(item))
            self.assertEqual(self.path(("x", 0), ("y", 0), item), (1, 2), repr(item))

    def test_name(self):
        for name in ("", "A", "0a", "abcdefghijklm", "a b", 0, None, True, (), [], {}, ("a",)):
            self.assertEqual(self.path((name, 1)), (1, 0, 0), repr(name))
            self.assertEqual(self.path(("x", 1), (name, 1)), (1, 1, 0), repr(name))

    def test_name_twice(self):
        self.assertEqual(self.path(("a", 1), ("b", 1), ("a", 2)), (1, 2, 0))
        self.assertEqual(self.path(("a", 1), ("a", 1)), (1, 1, 0))

    def test_price(self):
        for price in (-1, -(10 ** 30), True, False, None, "1", "", (), (1,), [], {}):
            self.assertEqual(self.path(("a", price)), (1, 0, 1), repr(price))
            self.assertEqual(self.path(("x", 0), ("a", price)), (1, 1, 1), repr(price))

    def test_right_edges(self):
        items = [("a", 0), ("abcdefghijkl", 10 ** 30), ("z9", 1)]
        self.assertEqual(Book("ahead", items, []).all_items(), items)


class TestSayings(unittest.TestCase):
    def path(self, *sayings):
        return path_of("behind", list(ITEMS), list(sayings))

    def test_no_list(self):
        for sayings in (None, 0, False, "", "ab", {}, {"c": ("a",)}, Book("ahead", [], [])):
            self.assertEqual(path_of("behind", list(ITEMS), sayings), (2,), repr(sayings))

    def test_no_pair(self):
        for saying in (None, 1, "ab", (), ("c",), ("c", ("a",), 0), ["c", ("a",)], [], {}):
            self.assertEqual(self.path(saying), (2, 0), repr(saying))
            self.assertEqual(self.path(SAYINGS[0], saying), (2, 1), repr(saying))

    def test_name(self):
        for name in ("e", "", "A", 0, None, True, (), [], {}, ("c",), ["c"]):
            self.assertEqual(self.path((name, ("a",))), (2, 0, 0), repr(name))
            self.assertEqual(self.path(*SAYINGS, (name, ("a",))), (2, 2, 0), repr(name))

    def test_some(self):
        for some in ((), [], ["a"], "a", None, 0, {}, {"a": 1}):
            self.assertEqual(self.path(("c", some)), (2, 0, 1), repr(some))
            self.assertEqual(self.path(SAYINGS[1], ("c", some)), (2, 1, 1), repr(some))

    def test_some_member(self):
        for name in ("e", "", "A", 0, None, True, (), [], {}, ("a",), ["a"]):
            self.assertEqual(self.path(("c", (name,))), (2, 0, 1, 0), repr(name))
            self.assertEqual(self.path(SAYINGS[0], ("c", ("a", "b", name))), (2, 1, 1, 2))

    def test_about_itself(self):
        self.assertEqual(self.path(("c", ("c",))), (2, 0, 1, 0))
        self.assertEqual(self.path(("c", ("a", "c", "b"))), (2, 0, 1, 1))

    def test_member_twice(self):
        self.assertEqual(self.path(("c", ("a", "b", "a"))), (2, 0, 1, 2))
        self.assertEqual(self.path(("c", ("a", "a"))), (2, 0, 1, 1))

    def test_same_saying_twice(self):
        book = Book("behind", list(ITEMS), [SAYINGS[0], SAYINGS[0]])
        self.assertEqual(book.sayings(), [SAYINGS[0], SAYINGS[0]])


class TestTwoFaults(unittest.TestCase):
    def test_items_ahead_of_sayings(self):
        self.assertEqual(path_of("behind", [("a", -1)], None), (1, 0, 1))
        self.assertEqual(path_of("behind", None, [0]), (1,))
        self.assertEqual(path_of("behind", [("a", 1), 0], [("a", ())]), (1, 1))

    def test_one_item_ahead_of_the_next(self):
        self.assertEqual(path_of("behind", [("a", -1), 0], []), (1, 0, 1))
        self.assertEqual(path_of("behind", [("a", -1), ("a", 1)], []), (1, 0, 1))
        self.assertEqual(path_of("behind", [("A", -1)], []), (1, 0, 0))

    def test_one_saying_ahead_of_the_next(self):
        def path(*sayings):
            return path_of("behind", list(ITEMS), list(sayings))

        self.assertEqual(path(("c", ("a", "e")), 0), (2, 0, 1, 1))
        self.assertEqual(path(("c", ()), ("e", ("a",))), (2, 0, 1))
        self.assertEqual(path(("e", ())), (2, 0, 0))
        self.assertEqual(path(("c", ("c", "a", "a"))), (2, 0, 1, 0))
        self.assertEqual(path(("c", ("a", "a", "c"))), (2, 0, 1, 1))


class TestBook(unittest.TestCase):
    def test_told(self):
        book = book_b()
        self.assertEqual(book.side(), "behind")
        self.assertEqual(book.all_items(), list(ITEMS))
        self.assertEqual(book.sayings(), list(SAYINGS))
        self.assertEqual(book.names(), ["a", "b", "c", "d"])
        self.assertEqual(book.total(), 10)

    def test_empty(self):
        book = Book("ahead", (), ())
        told = (book.all_items(), book.sayings(), book.names(), book.total())
        self.assertEqual(told, ([], [], [], 0))

    def test_tuples_in_place_of_lists(self):
        self.assertEqual(Book("behind", ITEMS, SAYINGS), book_b())
        self.assertIs(Book("behind", ITEMS, SAYINGS).all_items().__class__, list)
        self.assertIs(Book("behind", ITEMS, SAYINGS).sayings().__class__, list)

    def test_methods_of_its_own(self):
        for name in ("side", "all_items", "sayings", "names", "has_name", "price", "total"):
            self.assertIn(name, vars(Book))
        self.assertIn("__eq__", vars(Book))

    def test_price(self):
        book = book_b()
        self.assertEqual([book.price(name) for name in "abcd"], [1, 2, 3, 4])
        self.assertEqual(Book("ahead", [("a", 10 ** 30)], []).price("a"), 10 ** 30)

    def test_price_of_an_unknown_name(self):
        for name in ODD + ("e", "aa", ("a", 1)):
            self.assertIs(raised(UnknownName, book_b().price, name).name, name)

    def test_has_name(self):
        for name in "abcd":
            self.assertIs(book_b().has_name(name), True)
        for name in ODD + ("e", "aa", ("a", 1)):
            self.assertIs(book_b().has_name(name), False, repr(name))

    def test_total(self):
        self.assertEqual(Book("ahead", [("a", 10 ** 30), ("b", 0), ("c", 1)], []).total(), 10 ** 30 + 1)


class TestEquality(unittest.TestCase):
    def differs(self, one, other):
        self.assertIs(one == other, False)
        self.assertIs(other == one, False)
        self.assertIs(one != other, True)
        self.assertIs(other != one, True)

    def test_equal(self):
        self.assertIs(book_b() == book_b(), True)
        self.assertIs(book_b() != book_b(), False)
        book = book_b()
        self.assertIs(book == book, True)
        self.assertIs(Book("ahead", [], []) == Book("ahead", (), ()), True)

    def test_unequal(self):
        items, sayings = list(ITEMS), list(SAYINGS)
        for other in (
            Book("ahead", items, sayings),
            Book("behind", items[::-1], sayings),
            Book("behind", items[:3] + [("d", 5)], sayings),
            Book("behind", items + [("e", 0)], sayings),
            Book("behind", items, sayings[::-1]),
            Book("behind", items, sayings[:1]),
            Book("behind", items, sayings + sayings[:1]),
            Book("behind", items, [("c", ("b", "a")), sayings[1]]),
            Book("behind", items, []),
        ):
            self.differs(book_b(), other)

    def test_other_kinds(self):
        for other in ODD + (("behind", ITEMS, SAYINGS), object()):
            self.differs(book_b(), other)
        self.differs(Book("behind", [], []), ("behind", (), ()))


class TestMirrored(unittest.TestCase):
    def test_both_sides(self):
        book = book_b()
        self.assertEqual(mirrored_book(book), book_b("ahead"))
        self.assertEqual(mirrored_book(book_b("ahead")), book)
        self.assertEqual(book, book_b())


class TestWithSayings(unittest.TestCase):
    def test_right(self):
        more = [("b", ("a",)), ("c", ("a", "b"))]
        expected = Book("behind", list(ITEMS), list(SAYINGS) + more)
        self.assertEqual(with_sayings(book_b(), more), expected)
        self.assertEqual(with_sayings(book_b(), tuple(more)), expected)
        self.assertEqual(with_sayings(book_b("ahead"), []), book_b("ahead"))

    def test_no_list(self):
        for sayings in (None, 0, True, "", "ab", {}, book_b()):
            self.assertEqual(raised(BadBook, with_sayings, book_b(), sayings).path, (2,))

    def test_path_counts_its_own_first(self):
        for more, path in (
            ([0], (2, 2)),
            ([("b", ("a",)), ("e", ("a",))], (2, 3, 0)),
            ([("b", [])], (2, 2, 1)),
            ([("b", ("a", "b"))], (2, 2, 1, 1)),
        ):
            self.assertEqual(raised(BadBook, with_sayings, book_b(), more).path, path)


class TestNothingKept(unittest.TestCase):
    def test_arguments_stay(self):
        items, sayings, more = list(ITEMS), list(SAYINGS), [("b", ("a",))]
        with Untouched(self, items, sayings, more):
            with_sayings(mirrored_book(Book("behind", items, sayings)), more)

    def test_lists_changed_later(self):
        items, sayings, more = list(ITEMS), list(SAYINGS), [("b", ("a",))]
        book = Book("behind", items, sayings)
        longer = with_sayings(book, more)
        for passed in (items, sayings, more):
            passed.clear()
        self.assertEqual(book, book_b())
        self.assertEqual(longer.sayings(), list(SAYINGS) + [("b", ("a",))])

    def test_returned_lists_changed(self):
        book = book_b()
        for told in (book.all_items, book.sayings, book.names):
            first = told()
            self.assertIsNot(first, told())
            first.clear()
        self.assertEqual(book, book_b())
        self.assertEqual(book.names(), ["a", "b", "c", "d"])

    def test_errors_are_equal_each_time(self):
        items = [("a", 1), ("a", 1)]
        self.assertEqual(path_of("behind", items, []), path_of("behind", items, []))


if __name__ == "__main__":
    unittest.main()
