"""Deeds and scripts (S3.1, S3.2)."""

import itertools
import random
import unittest

from samples import ODD, Untouched, book_b, book_with, drawn_books, kept, orders_of, raised
from takenout.books import Book, mirrored_book
from takenout.deeds import all_deeds, done, led, script_price, taken_back
from takenout.errors import BadDeed, BadScript

ORDER = ("a", "c", "d", "b")
SCRIPT = [("b", None), ("a", "d")]


def plain_moved(order, deed):
    """The order behind a deed, said as S3.1 says it, sayings left out."""
    name, place = deed
    moved = []
    if place is None:
        moved.append(name)
    for other in order:
        if other != name:
            moved.append(other)
        if other == place:
            moved.append(name)
    return tuple(moved)


def plain_deeds(book, order):
    """All deeds that can be done, in the order that the interface tells."""
    orders = orders_of(book)
    return [
        (name, place)
        for name in book.names()
        for place in [None] + [other for other in order if other != name]
        if plain_moved(order, (name, place)) in orders
    ]


def drawn_walks(count, seed, most=8):
    """Drawn books with an order, an order of each and a script from it."""
    draw = random.Random(seed)
    for book in drawn_books(count, seed):
        orders = orders_of(book)
        if orders:
            first = order = draw.choice(orders)
            script = []
            for _ in range(draw.randrange(most)):
                deed = draw.choice(plain_deeds(book, order))
                script.append(deed)
                order = plain_moved(order, deed)
            yield book, first, script, order


def word_of(book, order, deed):
    """The word with which done refuses a deed."""
    return raised(BadDeed, done, book, order, deed).word


def number_of(call, script, book=None, order=ORDER):
    """The number with which a script is refused."""
    return raised(BadScript, call, book or book_b(), order, script).number


class TestExamples(unittest.TestCase):
    def test_deeds(self):
        self.assertEqual(done(book_b(), ORDER, ("b", None)), ("b", "a", "c", "d"))
        self.assertEqual(script_price(book_b(), [("b", None)]), 2)
        self.assertEqual(word_of(book_b(), ORDER, ("c", "b")), "broken")

    def test_script(self):
        self.assertEqual(led(book_b(), ORDER, SCRIPT), ("b", "c", "d", "a"))
        self.assertEqual(script_price(book_b(), SCRIPT), 3)
        self.assertEqual(taken_back(book_b(), ORDER, SCRIPT), [("a", "b"), ("b", "d")])


class TestDone(unittest.TestCase):
    def test_right_behind_on_both_sides(self):
        for side in ("behind", "ahead"):
            book = book_with("abcd", [], side)
            self.assertEqual(done(book, ORDER, ("a", "d")), ("c", "d", "a", "b"))
            self.assertEqual(done(book, ORDER, ("b", "a")), ("a", "b", "c", "d"))
            self.assertEqual(done(book, ORDER, ("a", "b")), ("c", "d", "b", "a"))
            self.assertEqual(done(book, ORDER, ("d", None)), ("d", "a", "c", "b"))

    def test_nothing_changed(self):
        for deed in (("a", None), ("c", "a"), ("d", "c"), ("b", "d")):
            self.assertEqual(done(book_b(), ORDER, deed), ORDER)
        self.assertEqual(done(book_with("a", []), ("a",), ("a", None)), ("a",))

    def test_each_deed(self):
        for book in drawn_books(60, seed=16):
            orders = orders_of(book)
            for order in orders:
                for name, place in itertools.product("abcd", [None, "a", "b", "c", "d"]):
                    behind = plain_moved(order, (name, place)) if name != place else None
                    if name == place:
                        self.assertEqual(word_of(book, order, (name, place)), "place")
                    elif behind in orders:
                        self.assertEqual(done(book, order, (name, place)), behind)
                    else:
                        self.assertEqual(word_of(book, order, (name, place)), "broken")

    def test_no_saying_while_it_is_out(self):
        # Without c nothing would bear d; c comes back ahead of it.
        self.assertEqual(done(book_b(), ("a", "b", "c", "d"), ("c", "a")), ("a", "c", "b", "d"))

    def test_plain_tuple(self):
        self.assertIs(done(book_b(), ORDER, ("b", None)).__class__, tuple)
        self.assertIs(done(book_b(), ORDER, ("b", "d")).__class__, tuple)


class TestBadDeed(unittest.TestCase):
    def test_form(self):
        for deed in (
            None, 0, True, "", "bc", "b", [], {}, (), ("b",), ["b", None], ("b", None, None),
            {"b": None}, ("b", None, "c"), book_b(),
        ):
            self.assertEqual(word_of(book_b(), ORDER, deed), "form", repr(deed))

    def test_item(self):
        for name in ODD + ("e", ("b",), ["b"]):
            self.assertEqual(word_of(book_b(), ORDER, (name, "a")), "item", repr(name))

    def test_place(self):
        for place in [value for value in ODD if value is not None] + ["e", ("a",), ["a"], "b"]:
            self.assertEqual(word_of(book_b(), ORDER, ("b", place)), "place", repr(place))

    def test_broken(self):
        self.assertEqual(word_of(book_b(), ORDER, ("c", None)), "broken")
        self.assertEqual(word_of(book_b(), ORDER, ("d", None)), "broken")
        mirror = mirrored_book(book_b())
        self.assertEqual(word_of(mirror, ORDER[::-1], ("c", "a")), "broken")

    def test_first_of_two(self):
        self.assertEqual(word_of(book_b(), ORDER, ("e", "e", "e")), "form")
        self.assertEqual(word_of(book_b(), ORDER, ["e", "e"]), "form")
        self.assertEqual(word_of(book_b(), ORDER, ("e", "e")), "item")
        self.assertEqual(word_of(book_b(), ORDER, ("e", 7)), "item")
        self.assertEqual(word_of(book_b(), ORDER, ("c", "e")), "place")
        self.assertEqual(word_of(book_b(), ORDER, ("c", "c")), "place")


class TestAllDeeds(unittest.TestCase):
    def test_in_its_order(self):
        book = book_with("cab", [("c", ("a",))])
        self.assertEqual(all_deeds(book, ("b", "a", "c")), [
            ("c", "a"),
            ("a", None), ("a", "b"),
            ("b", None), ("b", "a"), ("b", "c"),
        ])
        self.assertEqual(all_deeds(book_with("", []), ()), [])
        self.assertEqual(all_deeds(book_with("a", []), ("a",)), [("a", None)])

    def test_against_plain(self):
        for book in drawn_books(30, seed=17):
            for order in orders_of(book):
                self.assertEqual(all_deeds(book, order), plain_deeds(book, order))

    def test_all_can_be_done(self):
        for deed in all_deeds(book_b(), ORDER):
            done(book_b(), ORDER, deed)
        changing_none = [deed for deed in all_deeds(book_b(), ORDER) if done(book_b(), ORDER, deed) == ORDER]
        self.assertEqual(changing_none, [("a", None), ("b", "d"), ("c", "a"), ("d", "c")])


class TestLed(unittest.TestCase):
    def test_drawn_walks(self):
        for book, order, script, end in drawn_walks(120, seed=18):
            self.assertEqual(led(book, order, script), end)
            self.assertEqual(led(book, order, tuple(script)), end)

    def test_empty_script(self):
        self.assertEqual(led(book_b(), ORDER, []), ORDER)
        self.assertEqual(led(book_b(), ORDER, ()), ORDER)
        self.assertEqual(led(Book("ahead", [], []), (), []), ())

    def test_goes_on_where_the_last_deed_led(self):
        self.assertEqual(word_of(book_b(), ORDER, ("a", "d")), "broken")
        self.assertEqual(number_of(led, SCRIPT[::-1]), 0)

    def test_400_deeds(self):
        script = SCRIPT + [("a", "b"), ("b", "d")]
        self.assertEqual(led(book_b(), ORDER, script * 100), ORDER)
        self.assertEqual(number_of(led, script * 99 + [("d", "a")] + script), 396)
        self.assertEqual(script_price(book_b(), script * 100), 600)
        # Its second half goes back by the orders of its first half.
        self.assertEqual(taken_back(book_b(), ORDER, script * 100), script * 100)


class TestBadScript(unittest.TestCase):
    def test_no_list(self):
        for call in (led, taken_back):
            for script in (None, 0, 1, True, "", "ab", {}, {("b", None): 1}, book_b()):
                self.assertEqual(number_of(call, script), 0, repr(script))

    def test_first_wrong_member(self):
        for call in (led, taken_back):
            for deed in (
                None, "ab", (), ("a",), ["b", None], ("b", None, None), ("e", None), (["a"], None),
                ("a", "a"), ("a", "e"), ("a", 0), ("a", ["b"]), ("c", None), {}, 5, True,
            ):
                self.assertEqual(number_of(call, [deed]), 0, repr(deed))
                self.assertEqual(number_of(call, (deed, deed)), 0, repr(deed))
                self.assertEqual(number_of(call, SCRIPT + [deed, 0]), 2, repr(deed))

    def test_right_alone_but_not_there(self):
        self.assertEqual(number_of(led, [("b", None), ("b", "d"), ("a", "d")]), 2)


class TestScriptPrice(unittest.TestCase):
    def test_sums(self):
        for book, _, script, _ in drawn_walks(60, seed=19):
            prices = dict(book.all_items())
            self.assertEqual(script_price(book, script), sum(prices[name] for name, _ in script))

    def test_scripts_that_cannot_be_done(self):
        self.assertEqual(script_price(book_b(), [("c", None), ("d", "b"), ("c", None)]), 10)
        self.assertEqual(script_price(book_b(), (("d", None),)), 4)

    def test_edges(self):
        self.assertEqual(script_price(book_b(), []), 0)
        self.assertEqual(script_price(book_b(), ()), 0)
        great = Book("ahead", [("a", 10 ** 30), ("b", 0)], [])
        self.assertEqual(script_price(great, [("a", None), ("b", "a"), ("a", "b")]), 2 * 10 ** 30)

    def test_deeds_that_change_nothing_cost(self):
        self.assertEqual(script_price(book_b(), [("a", None), ("b", "d")]), 3)


class TestTakenBack(unittest.TestCase):
    def test_by_the_same_orders(self):
        for book, order, script, end in drawn_walks(120, seed=20):
            back = taken_back(book, order, script)
            self.assertEqual([name for name, _ in back], [name for name, _ in script][::-1])
            self.assertEqual(script_price(book, back), script_price(book, script))
            orders = [led(book, order, script[:k]) for k in range(len(script) + 1)]
            behind = [led(book, end, back[:k]) for k in range(len(script) + 1)]
            self.assertEqual(behind, orders[::-1])
            self.assertEqual(taken_back(book, end, back), script)
            self.assertEqual(taken_back(book, order, tuple(script)), back)

    def test_empty_script(self):
        self.assertEqual(taken_back(book_b(), ORDER, []), [])
        self.assertEqual(taken_back(book_b(), ORDER, ()), [])

    def test_all_orders_keep_the_sayings(self):
        for book, order, script, end in drawn_walks(40, seed=21):
            at = end
            for deed in taken_back(book, order, script):
                at = plain_moved(at, deed)
                self.assertTrue(all(kept(book.side(), at, saying) for saying in book.sayings()))
            self.assertEqual(at, order)


class TestNothingChanged(unittest.TestCase):
    def test_arguments_stay(self):
        script, wrong, odd, book = list(SCRIPT), [("b", None), ["a", None]], ["b", None], book_b()
        with Untouched(self, script, wrong, odd):
            led(book, ORDER, script)
            script_price(book, script)
            taken_back(book, ORDER, script)
            number_of(led, wrong)
            word_of(book, ORDER, odd)
        self.assertEqual(book, book_b())

    def test_new_each_time(self):
        for call, args in (
            (all_deeds, (book_b(), ORDER)),
            (taken_back, (book_b(), ORDER, SCRIPT)),
        ):
            told = call(*args)
            again = list(told)
            told.clear()
            self.assertEqual(call(*args), again)
        script = []
        self.assertIsNot(taken_back(book_b(), ORDER, script), script)


if __name__ == "__main__":
    unittest.main()
