"""Houses: acts and their words, the account, taking back, marks, twins and next deeds (S10.1 to S10.4)."""

import copy
import heapq
import itertools
import random
import time
import unittest

from plainhouse import PlainHouse, account_of, draw_act, put_in
from samples import (
    ODD, Untouched, book_b, book_with, dearest_of, drawn_books, great_pair, kept, orders_of, raised, rows_of,
)
from takenout.books import Book
from takenout.errors import BadAct, NothingDone, UnknownName
from takenout.house import House
from takenout.leastprices import least_price

F = ("a", "c", "d", "b")
G = ("b", "c", "d", "a")
SIDES = ("behind", "ahead")


def told(house):
    """All that a house tells but for its marks."""
    return (
        house.book(), house.order(), house.goal(), house.nailed(), house.owed(), house.account(),
        house.acts(), house.next_deed(),
    )


def done_anew(book, order, acts):
    """A new house at which some acts were done."""
    house = House(book, order)
    for act in acts:
        house.do(act)
    return house


def plain_of(house):
    """The plain house that is as a house is."""
    book = house.book()
    return PlainHouse(
        book.side(), book.all_items(), book.sayings(), house.order(), house.goal(), house.nailed()
    )


def fewest(house):
    """The price and the number of deeds of the shortest of the cheapest scripts, by plain walks."""
    plain = plain_of(house)
    best = {plain.order: (0, 0)}
    queue = [((0, 0), plain.order)]
    while queue:
        (price, count), order = heapq.heappop(queue)
        if best[order] == (price, count):
            for name, cost in plain.items:
                for place in [None, *[it for it in order if it != name]]:
                    behind = put_in(order, name, place)
                    more = (price + cost, count + 1)
                    less = behind not in best or more < best[behind]
                    if less and name not in plain.nailed and plain.lets(behind):
                        best[behind] = more
                        heapq.heappush(queue, (more, behind))
    return best[plain.goal]


class Houses(unittest.TestCase):
    def check_like(self, house, plain, houses, acts):
        """A house tells what a plain one tells."""
        book = house.book()
        self.assertEqual((book.side(), book.all_items()), (plain.side, plain.items))
        self.assertEqual(book.sayings(), plain.sayings)
        self.assertEqual((house.order(), house.goal()), (plain.order, plain.goal))
        self.assertEqual(house.nailed(), [name for name in plain.names() if name in plain.nailed])
        self.assertEqual(house.owed(), plain.owed())
        self.assertEqual(house.acts(), acts)
        self.assertEqual(house.account(), account_of(houses, acts))
        paid, waste, given = house.account()
        self.assertEqual(paid + house.owed(), given + waste)

    def check_refused(self, house, act, word):
        """An act cannot be done, with a word, and nothing is changed by looking or by trying."""
        before = told(house)
        self.assertEqual(house.act_word(act), word, repr(act))
        self.assertEqual(raised(BadAct, house.do, act).word, word, repr(act))
        self.assertEqual(told(house), before)

    def check_done(self, house, *acts):
        """Acts can be done, and a look ahead changes nothing."""
        for act in acts:
            count = len(house.acts())
            before = told(house)
            self.assertIsNone(house.act_word(act), repr(act))
            self.assertEqual(told(house), before)
            self.assertEqual(house.do(act), count + 1)
            self.assertEqual(house.acts()[-1], act)


class TestNew(Houses):
    def test_at_first(self):
        for order in orders_of(book_b()):
            house = House(book_b(), order)
            self.assertEqual(house.book(), book_b())
            self.assertEqual((house.order(), house.goal(), house.nailed()), (order, order, []))
            self.assertEqual((house.owed(), house.account()), (0, (0, 0, 0)))
            self.assertEqual((house.acts(), house.marks(), house.next_deed()), ([], [], None))
            raised(NothingDone, house.undo)
            raised(NothingDone, house.redo)

    def test_no_items(self):
        house = House(Book("ahead", [], []), ())
        self.check_done(house, ("goal", ()), ("come", "a", 3, None, None), ("nail", "a"), ("go", "a"))
        self.assertEqual((house.order(), house.goal(), house.nailed()), ((), (), []))
        self.assertEqual((house.owed(), house.account(), house.next_deed()), (0, (0, 0, 0), None))


class TestWords(Houses):
    def house(self, *acts):
        """A house of B with the goal G, at which some acts are done."""
        return done_anew(book_b(), F, [("goal", G), *acts])

    def test_put(self):
        house = self.house(("nail", "d"))
        for item in ("e", "", None, 0, ("a",), "A"):
            for place in (None, "a", "e", item):
                self.check_refused(house, ("put", item, place), "item")
        for place in (None, "a", "d", "e", 0):
            self.check_refused(house, ("put", "d", place), "nailed")
        for place in ("c", "e", "", 0, False, ("a",), []):
            self.check_refused(house, ("put", "c", place), "place")
        self.check_refused(house, ("put", "c", "d"), "broken")
        self.check_refused(house, ("put", "c", None), "broken")
        self.check_refused(house, ("put", "a", "c"), "broken")
        self.check_done(house, ("put", "b", None), ("put", "b", "a"), ("put", "b", "a"), ("put", "c", "b"))
        self.assertEqual(house.order(), ("a", "b", "c", "d"))

    def test_goal(self):
        house = self.house(("nail", "a"))
        for value in (
            F[:3], (*F, "a"), ("a", "c", "d", "d"), ("a", "c", "d", "e"), list(F), "acdb", None, (), (F,), 0,
            ("a", "c", "d", ["b"]), ("d", "c", "b"), {name: 1 for name in F},
        ):
            self.check_refused(house, ("goal", value), "order")
        for value in (("c", "a", "b", "d"), ("a", "d", "c", "b"), ("d", "c", "b", "a")):
            self.check_refused(house, ("goal", value), "broken")
        self.check_done(house, ("goal", G), ("goal", F), ("nail", "b"))
        self.check_refused(house, ("goal", G), "crossed")
        self.check_refused(house, ("goal", ("b", "a", "c", "d")), "crossed")
        self.check_refused(house, ("goal", ("d", "b", "c", "a")), "broken")
        self.check_done(house, ("goal", ("a", "b", "c", "d")))

    def test_come(self):
        house = self.house()
        for name in ("a", "d", "", "A", "abcdefghijklm", "1a", None, 0, ("e",)):
            for price, place in ((1, None), (-1, "e"), (None, 7)):
                self.check_refused(house, ("come", name, price, place, place), "name")
        for price in (-1, True, False, None, "1", (), [1]):
            for place in (None, "e"):
                self.check_refused(house, ("come", "e", price, place, place), "price")
        for place in ("e", "", 0, False, ("a",), ["a"], "f"):
            self.check_refused(house, ("come", "e", 1, place, None), "place")
            self.check_refused(house, ("come", "e", 1, None, place), "place")
            self.check_refused(house, ("come", "e", 1, place, place), "place")
        self.check_done(house, ("come", "e", 0, "d", None), ("come", "first", 10 ** 30, None, "e"))
        self.assertEqual(house.order(), ("first", "a", "c", "d", "e", "b"))
        self.assertEqual(house.goal(), ("e", "first", "b", "c", "d", "a"))
        self.assertEqual(house.book().all_items()[4:], [("e", 0), ("first", 10 ** 30)])
        self.assertEqual(house.book().sayings(), book_b().sayings())

    def test_go(self):
        house = self.house()
        for item in ("e", "", None, 0, ("a",), ["a"]):
            self.check_refused(house, ("go", item), "item")
        # Without c the saying about d would have nothing left; without a c would stand ahead of b in F.
        self.check_refused(house, ("go", "c"), "broken")
        self.check_refused(house, ("go", "a"), "broken")
        # Without b c would stand ahead of a in the goal.
        self.check_refused(house, ("go", "b"), "broken")
        self.check_done(house, ("nail", "d"), ("go", "d"))
        self.assertEqual(house.book(), Book("behind", book_b().all_items()[:3], [("c", ("a", "b"))]))
        self.assertEqual((house.order(), house.goal()), (("a", "c", "b"), ("b", "c", "a")))
        self.assertEqual(house.nailed(), [])
        self.check_done(house, ("go", "c"))
        self.assertEqual(house.book().sayings(), [])

    def test_go_takes_it_out_of_sayings(self):
        sayings = [("d", ("b", "a", "c")), ("c", ("b", "a")), ("b", ("a",)), ("d", ("b",))]
        house = House(book_with("abcd", sayings), tuple("abcd"))
        self.check_refused(house, ("go", "b"), "broken")
        self.check_refused(house, ("go", "a"), "broken")
        self.check_done(house, ("unsay", 3), ("go", "b"))
        self.assertEqual(house.book().sayings(), [("d", ("a", "c")), ("c", ("a",))])

    def test_say(self):
        house = self.house()
        for name, some in (
            ("e", ("a",)), (None, ("a",)), ("a", ()), ("a", ["b"]), ("a", ("a",)), ("a", ("b", "b")),
            ("a", ("b", "e")), ("a", ("b", None)), ("a", None), ("a", "b"), ("", ()), (("a",), ("b",)),
            ("a", (("b",),)), (["a"], ("b",)), ("d", ("c", "a", "d")),
        ):
            self.check_refused(house, ("say", name, some), "form")
        # The present order alone keeps the first one, the goal alone the second one, none the third one.
        self.check_refused(house, ("say", "c", ("a",)), "broken")
        self.check_refused(house, ("say", "c", ("b",)), "broken")
        self.check_refused(house, ("say", "c", ("d",)), "broken")
        self.check_done(house, ("say", "d", ("b", "a")), ("say", "d", ("b", "a")))
        self.assertEqual(house.book().sayings(), book_b().sayings() + [("d", ("b", "a"))] * 2)

    def test_unsay(self):
        house = self.house()
        for number in (2, 3, -1, 10 ** 39, True, False, None, "0", (0,), [], ("c", ("a", "b"))):
            self.check_refused(house, ("unsay", number), "number")
        self.check_done(house, ("unsay", 0))
        self.assertEqual(house.book().sayings(), [("d", ("c",))])
        self.check_refused(house, ("unsay", 1), "number")
        self.check_done(house, ("unsay", 0))
        self.check_refused(house, ("unsay", 0), "number")

    def test_price(self):
        house = self.house()
        for item in ("e", "", None, 0, ("a",), True):
            for price in (1, -1):
                self.check_refused(house, ("price", item, price), "item")
        for price in (-1, True, False, None, "1", [], (1,)):
            self.check_refused(house, ("price", "a", price), "price")
        self.check_done(house, ("price", "b", 10 ** 30), ("price", "b", 0), ("price", "b", 0))
        self.assertEqual(house.book().all_items(), [("a", 1), ("b", 0), ("c", 3), ("d", 4)])

    def test_nail_and_free(self):
        house = self.house(("nail", "a"))
        for item in ("e", "", None, 0, ("a",), ["b"], {"a": 1}):
            self.check_refused(house, ("nail", item), "item")
            self.check_refused(house, ("free", item), "item")
        self.check_refused(house, ("nail", "a"), "nailed")
        self.check_refused(house, ("free", "b"), "nailed")
        for item in "bcd":
            self.check_refused(house, ("nail", item), "crossed")
        self.check_done(house, ("free", "a"), ("nail", "d"), ("nail", "c"))
        self.assertEqual(house.nailed(), ["c", "d"])
        self.check_refused(house, ("nail", "b"), "crossed")
        self.check_refused(house, ("free", "a"), "nailed")

    def test_form(self):
        house = self.house()
        acts = [
            ("put", "b", None), ("goal", F), ("come", "e", 1, None, None), ("go", "d"), ("say", "d", ("a", "b")),
            ("unsay", 0), ("price", "a", 5), ("nail", "a"), ("free", "a"),
        ]
        for act in acts:
            for value in (
                act[:-1], (*act, None), list(act), (act,), act[0], ("Put", *act[1:]), (act[0] + " ", *act[1:]),
                ((act[0],), *act[1:]), ([act[0]], *act[1:]), ({}, *act[1:]), (None, *act[1:]), (True, *act[1:]), ("undo", *act[1:]), {act: 1},
                ("", *act[1:]), act[1:] if act[0] != "say" else (),
            ):
                self.check_refused(house, value, "form")
        for value in ODD + (("put",), ("owed",), ("mark", "a"), ("undo",), ("put", "a", "b", None, None, None)):
            self.check_refused(house, value, "form")

    def test_values_of_any_kind(self):
        house = self.house(("nail", "d"))
        plain = plain_of(house)
        for act in (
            ("put", "b", "a"), ("goal", F), ("come", "e", 1, "a", None), ("go", "d"), ("say", "d", ("a", "b")),
            ("unsay", 0), ("price", "a", 5), ("nail", "c"), ("free", "d"),
        ):
            for k in range(1, len(act)):
                for value in ODD + ("a", "b", ("b", "c"), ("a", "a"), 2, "e"):
                    tried = (*act[:k], value, *act[k + 1:])
                    word = plain.word(tried)
                    self.assertEqual(house.act_word(tried), word, repr(tried))
                    if word is not None:
                        self.check_refused(house, tried, word)


class TestDrawnActs(Houses):
    def test_against_a_plain_house(self):
        draw = random.Random(90)
        words = {}
        for book in drawn_books(400, seed=91):
            orders = orders_of(book)
            if not orders:
                continue
            order = draw.choice(orders)
            house = House(book, order)
            houses = [PlainHouse(book.side(), book.all_items(), book.sayings(), order)]
            acts = []
            for _ in range(12):
                plain = houses[-1]
                act = draw_act(draw, plain)
                word = plain.word(act)
                words[act[0], word] = words.get((act[0], word), 0) + 1
                if word is not None:
                    self.check_refused(house, act, word)
                elif len(plain.names()) < 6 or act[0] != "come":
                    self.check_done(house, act)
                    houses.append(plain.behind(act))
                    acts.append(act)
                self.check_like(house, houses[-1], houses, acts)
        for key in (
            ("put", "item"), ("put", "nailed"), ("put", "place"), ("put", "broken"), ("put", None),
            ("goal", "order"), ("goal", "broken"), ("goal", "crossed"), ("goal", None),
            ("come", "name"), ("come", "price"), ("come", "place"), ("come", None),
            ("go", "item"), ("go", "broken"), ("go", None), ("say", "form"), ("say", "broken"), ("say", None),
            ("unsay", "number"), ("unsay", None), ("price", "item"), ("price", "price"), ("price", None),
            ("nail", "item"), ("nail", "nailed"), ("nail", "crossed"), ("nail", None),
            ("free", "item"), ("free", "nailed"), ("free", None),
        ):
            self.assertGreater(words.get(key, 0), 0, key)

    def test_all_deeds_of_a_house(self):
        draw = random.Random(92)
        for book in drawn_books(40, seed=93):
            for order in orders_of(book)[:2]:
                house = House(book, order)
                for _ in range(4):
                    act = draw_act(draw, plain_of(house))
                    if house.act_word(act) is None:
                        house.do(act)
                plain = plain_of(house)
                for name, place in itertools.product(plain.names(), [None, *plain.names()]):
                    act = ("put", name, place)
                    self.assertEqual(house.act_word(act), plain.word(act))


class TestAccount(Houses):
    def test_told(self):
        house = House(book_b(), F)
        house.do(("goal", G))
        self.assertEqual((house.owed(), house.account()), (3, (0, 0, 3)))
        house.do(("put", "b", None))
        self.assertEqual((house.owed(), house.account()), (1, (2, 0, 3)))
        house.do(("put", "b", "d"))
        self.assertEqual((house.owed(), house.account()), (3, (4, 4, 3)))
        house.do(("nail", "b"))
        self.assertEqual((house.owed(), house.account()), (8, (4, 4, 8)))
        house.do(("price", "c", 0))
        self.assertEqual((house.owed(), house.account()), (5, (4, 4, 5)))
        house.do(("free", "b"))
        self.assertEqual((house.owed(), house.account()), (3, (4, 4, 3)))
        house.do(("goal", house.order()))
        self.assertEqual((house.owed(), house.account()), (0, (4, 4, 0)))
        house.do(("put", "b", "d"))
        self.assertEqual((house.owed(), house.account()), (0, (6, 6, 0)))

    def test_prices_count_as_they_were(self):
        house = House(book_with("ab", [], prices=[2, 3]), ("a", "b"))
        for act in (("goal", ("b", "a")), ("put", "b", None), ("price", "b", 100), ("goal", ("a", "b"))):
            house.do(act)
        self.assertEqual((house.owed(), house.account()), (2, (3, 1, 4)))
        house.do(("put", "a", None))
        house.do(("price", "a", 0))
        self.assertEqual((house.owed(), house.account()), (0, (5, 1, 4)))

    def test_given_below_0(self):
        house = House(book_with("ab", [], prices=[2, 3]), ("a", "b"))
        house.do(("goal", ("b", "a")))
        house.do(("put", "a", "b"))
        house.do(("goal", ("a", "b")))
        house.do(("price", "a", 0))
        house.do(("price", "b", 0))
        self.assertEqual((house.owed(), house.account()), (0, (2, 0, 2)))
        other = House(book_with("ab", [], prices=[0, 3]), ("a", "b"))
        other.do(("goal", ("b", "a")))
        other.do(("nail", "a"))
        other.do(("put", "b", None))
        other.do(("free", "a"))
        self.assertEqual((other.owed(), other.account()), (0, (3, 0, 3)))
        other.do(("put", "b", "a"))
        other.do(("goal", ("a", "b")))
        self.assertEqual((other.owed(), other.account()), (0, (6, 3, 3)))

    def test_sayings_give_nothing(self):
        draw = random.Random(94)
        for book in drawn_books(40, seed=95):
            for order in orders_of(book)[:1]:
                house = House(book, order)
                for _ in range(30):
                    act = draw_act(draw, plain_of(house), "abcd")
                    if house.act_word(act) is None:
                        before = (house.owed(), house.account())
                        house.do(act)
                        if act[0] in ("say", "unsay"):
                            self.assertEqual((house.owed(), house.account()), before)
                        paid, waste, given = house.account()
                        self.assertEqual(paid + house.owed(), waste + given)
                        self.assertGreaterEqual(waste, before[1][1])


class TestTakingBack(Houses):
    def test_there_and_back(self):
        draw = random.Random(96)
        for book in drawn_books(60, seed=97):
            for order in orders_of(book)[:1]:
                house = House(book, order)
                acts, ahead = [], []
                for _ in range(40):
                    kind = draw.randrange(5)
                    if kind == 0 and acts:
                        ahead.append(acts.pop())
                        self.assertEqual(house.undo(), len(acts))
                    elif kind == 1 and ahead:
                        acts.append(ahead.pop())
                        self.assertEqual(house.redo(), len(acts))
                    elif kind > 1:
                        act = draw_act(draw, plain_of(house))
                        if house.act_word(act) is None and (act[0] != "come" or len(house.order()) < 5):
                            self.assertEqual(house.do(act), len(acts) + 1)
                            acts.append(act)
                            ahead = []
                    self.assertEqual(told(house), told(done_anew(book, order, acts)))
                    if not acts:
                        raised(NothingDone, house.undo)
                    if not ahead:
                        raised(NothingDone, house.redo)

    def test_an_act_takes_away_what_can_be_done_again(self):
        house = done_anew(book_b(), F, [("goal", G), ("put", "b", None), ("put", "a", "d")])
        self.assertEqual((house.undo(), house.undo()), (2, 1))
        self.assertEqual(house.do(("price", "a", 1)), 2)
        raised(NothingDone, house.redo)
        self.assertEqual(house.acts(), [("goal", G), ("price", "a", 1)])

    def test_an_act_that_changes_nothing_is_one(self):
        for act in (("put", "b", "d"), ("goal", F), ("price", "a", 1)):
            house = done_anew(book_b(), F, [("nail", "c")])
            house.undo()
            self.assertEqual(house.do(act), 1)
            raised(NothingDone, house.redo)
            self.assertEqual(house.acts(), [act])
            self.assertEqual((house.undo(), house.redo()), (0, 1))

    def test_what_takes_nothing_away(self):
        house = done_anew(book_b(), F, [("goal", G), ("put", "b", None)])
        house.undo()
        raised(BadAct, house.do, ("put", "c", "d"))
        raised(BadAct, house.do, None)
        house.act_word(("nail", "a"))
        house.mark("m")
        house.since("m")
        raised(UnknownName, house.since, "n")
        house.twin().do(("nail", "c"))
        for call in (house.book, house.order, house.goal, house.nailed, house.owed, house.account, house.acts,
                     house.marks, house.next_deed):
            call()
        self.assertEqual(house.redo(), 2)
        self.assertEqual(house.order(), ("b", "a", "c", "d"))
        raised(NothingDone, house.redo)
        self.assertEqual(house.acts(), [("goal", G), ("put", "b", None)])

    def test_nothing_done_changes_nothing(self):
        house = done_anew(book_b(), F, [("goal", G)])
        before = told(house)
        raised(NothingDone, house.redo)
        self.assertEqual(told(house), before)
        house.undo()
        raised(NothingDone, house.undo)
        self.assertEqual(house.redo(), 1)
        self.assertEqual(told(house), before)


class TestMarks(Houses):
    def plain_since(self, then, now):
        """What S10.4 tells of two plain houses."""
        came = [name for name in now.names() if name not in then.names()]
        went = [name for name in then.names() if name not in now.names()]
        items = [(name, price) for name, price in now.items if name not in came]
        orders = [tuple(it for it in order if it not in came + went) for order in (then.order, now.order)]
        book = Book("behind", items, [])
        return (tuple(came), tuple(went), book.total() - dearest_of(book, rows_of(orders)))

    def test_told(self):
        house = House(book_b(), F)
        house.mark("m")
        self.assertEqual(house.since("m"), ((), (), 0))
        for act in (
            ("goal", G), ("nail", "d"), ("put", "b", None), ("come", "e", 9, "d", None), ("go", "d"),
            ("come", "f", 5, None, None), ("price", "b", 20),
        ):
            house.do(act)
        self.assertEqual(house.since("m"), (("e", "f"), ("d",), 4))
        house.mark("m")
        self.assertEqual(house.since("m"), ((), (), 0))
        house.undo()
        house.undo()
        self.assertEqual(house.since("m"), ((), ("f",), 0))

    def test_an_item_that_goes_and_comes_again(self):
        house = House(book_with("abc", []), tuple("abc"))
        house.mark("m")
        house.do(("go", "a"))
        self.assertEqual(house.since("m"), ((), ("a",), 0))
        house.mark("n")
        house.do(("come", "a", 7, "c", None))
        self.assertEqual(house.book().names(), ["b", "c", "a"])
        self.assertEqual(house.since("m"), ((), (), 2))
        self.assertEqual(house.since("n"), (("a",), (), 0))
        house.do(("price", "b", 30))
        self.assertEqual(house.since("m"), ((), (), 7))

    def test_an_item_that_comes_and_goes(self):
        house = House(book_with("ab", []), tuple("ab"))
        house.mark("m")
        house.do(("come", "c", 1, None, None))
        house.mark("n")
        house.do(("go", "c"))
        self.assertEqual(house.since("m"), ((), (), 0))
        self.assertEqual(house.since("n"), ((), ("c",), 0))

    def test_sequences(self):
        house = House(book_with("dbca", []), tuple("abcd"))
        house.mark("m")
        for act in (("go", "b"), ("go", "d"), ("go", "a"), ("come", "z", 1, None, None),
                    ("come", "y", 1, None, None), ("come", "b", 1, "c", None)):
            house.do(act)
        self.assertEqual(house.since("m"), (("z", "y"), ("d", "a"), 1))

    def test_by_present_prices_without_sayings_and_nails(self):
        house = House(book_b(), F)
        house.mark("m")
        for act in (("put", "b", None), ("goal", ("b", "a", "c", "d")), ("nail", "b"), ("price", "b", 50)):
            house.do(act)
        self.assertEqual(house.since("m"), ((), (), 8))
        house.do(("say", "d", ("b",)))
        self.assertEqual(house.since("m"), ((), (), 8))

    def test_kept_over_undo(self):
        house = House(book_b(), F)
        house.do(("goal", G))
        house.do(("put", "b", None))
        house.mark("m")
        house.undo()
        self.assertEqual(house.marks(), ["m"])
        self.assertEqual((house.order(), house.since("m")), (F, ((), (), 2)))
        house.undo()
        raised(NothingDone, house.undo)
        self.assertEqual(house.since("m"), ((), (), 2))
        house.do(("price", "b", 1))
        self.assertEqual(house.since("m"), ((), (), 1))

    def test_sorted(self):
        house = House(book_b(), F)
        for name in ("b", "a9", "a10", "first", "b", "a"):
            self.assertIsNone(house.mark(name))
        self.assertEqual(house.marks(), ["a", "a10", "a9", "b", "first"])

    def test_unknown_names(self):
        house = House(book_b(), F)
        house.mark("a")
        for value in ODD + ("b", "A", ["a"], "a ", ("a", "a")):
            if value != "a":
                self.assertIs(raised(UnknownName, house.since, value).name, value)
        self.assertEqual(house.marks(), ["a"])

    def test_drawn(self):
        draw = random.Random(98)
        for book in drawn_books(60, seed=99):
            for order in orders_of(book)[:1]:
                house = House(book, order)
                marked = {}
                for _ in range(20):
                    act = draw_act(draw, plain_of(house))
                    if house.act_word(act) is None and (act[0] != "come" or len(house.order()) < 6):
                        house.do(act)
                    if draw.randrange(4) == 0:
                        name = draw.choice(["m", "n", "o"])
                        house.mark(name)
                        marked[name] = plain_of(house)
                    if draw.randrange(6) == 0 and house.acts():
                        house.undo()
                    for name, plain in marked.items():
                        self.assertEqual(house.since(name), self.plain_since(plain, plain_of(house)))
                    self.assertEqual(house.marks(), sorted(marked))


class TestTwins(Houses):
    def test_as_it_is(self):
        draw = random.Random(100)
        for book in drawn_books(40, seed=101):
            for order in orders_of(book)[:1]:
                house = House(book, order)
                for _ in range(15):
                    act = draw_act(draw, plain_of(house))
                    if house.act_word(act) is None and (act[0] != "come" or len(house.order()) < 5):
                        house.do(act)
                    if draw.randrange(3) == 0:
                        house.mark(draw.choice(["m", "n"]))
                for _ in range(min(3, len(house.acts()))):
                    house.undo()
                twin = house.twin()
                self.assertIs(twin.__class__, House)
                while True:
                    self.assertEqual(told(twin), told(house))
                    self.assertEqual(twin.marks(), house.marks())
                    for name in house.marks():
                        self.assertEqual(twin.since(name), house.since(name))
                    try:
                        count = house.redo()
                    except NothingDone:
                        break
                    self.assertEqual(twin.redo(), count)
                raised(NothingDone, twin.redo)
                while house.acts():
                    self.assertEqual(twin.undo(), house.undo())
                    self.assertEqual(told(twin), told(house))

    def test_nothing_shared(self):
        for first in (0, 1):
            house = done_anew(book_b(), F, [("goal", G), ("put", "b", None), ("nail", "c")])
            house.mark("m")
            house.undo()
            both = [house, house.twin()]
            one, other = both[first], both[1 - first]
            before = told(other)
            one.do(("put", "b", "a"))
            one.mark("n")
            one.mark("m")
            one.undo()
            one.undo()
            one.undo()
            self.assertEqual(told(other), before)
            self.assertEqual(other.marks(), ["m"])
            self.assertEqual(other.since("m"), ((), (), 0))
            self.assertEqual(other.redo(), 3)
            self.assertEqual(other.acts(), [("goal", G), ("put", "b", None), ("nail", "c")])
            self.assertEqual((other.undo(), other.undo()), (2, 1))
            self.assertEqual(one.acts(), [])
            self.assertEqual(one.redo(), 1)
            other.do(("nail", "d"))
            self.assertEqual((one.redo(), one.redo()), (2, 3))
            self.assertEqual(one.acts(), [("goal", G), ("put", "b", None), ("put", "b", "a")])

    def test_twins_of_twins(self):
        house = House(book_b(), F)
        houses = [house]
        for act in (("goal", G), ("put", "b", None), ("put", "a", "d")):
            houses.append(houses[-1].twin())
            houses[-1].do(act)
        self.assertEqual([len(it.acts()) for it in houses], [0, 1, 2, 3])
        self.assertEqual([it.owed() for it in houses], [0, 3, 1, 0])


class TestNextDeed(Houses):
    def check_led(self, house):
        """Whoever does next deeds comes to the goal by the fewest deeds of a cheapest script."""
        price, count = fewest(house)
        self.assertEqual(house.owed(), price)
        paid = house.account()[0]
        for _ in range(count):
            deed = house.next_deed()
            self.assertIs(deed.__class__, tuple)
            before = told(house)
            self.assertNotIn(deed[0], house.nailed())
            self.assertEqual(told(house), before)
            order = house.order()
            house.do(("put", *deed))
            self.assertNotEqual(house.order(), order)
        self.assertIsNone(house.next_deed())
        self.assertEqual(house.order(), house.goal())
        self.assertEqual(house.account()[0], paid + price)

    def test_b(self):
        house = done_anew(book_b(), F, [("goal", G)])
        self.assertIn(house.next_deed(), [("b", None), ("b", "a")])
        self.check_led(house)

    def test_small_books(self):
        draw = random.Random(102)
        for book in drawn_books(60, seed=103):
            orders = orders_of(book)
            for order in orders[:2]:
                house = done_anew(book, order, [("goal", draw.choice(orders))])
                for name in draw.sample(book.names(), 2):
                    if house.act_word(("nail", name)) is None and draw.randrange(2):
                        house.do(("nail", name))
                self.check_led(house)

    def test_no_prices(self):
        for order, goal in itertools.product(itertools.permutations("abcd"), [tuple("abcd"), tuple("cadb")]):
            house = done_anew(book_with("abcd", [], prices=[0, 0, 0, 0]), order, [("goal", goal)])
            self.check_led(house)
            book = book_with("abcd", [("d", ("a", "b"))], prices=[0, 10 ** 30, 0, 1])
            if all(kept("behind", it, ("d", ("a", "b"))) for it in (order, goal)):
                self.check_led(done_anew(book, order, [("goal", goal)]))

    def test_some_items_of_the_price_0(self):
        # A row of items of the price 0 is to stand where it costs nothing more.
        book = book_with("abcde", [], prices=[0, 0, 0, 1, 1])
        house = done_anew(book, tuple("abcde"), [("goal", tuple("eabcd"))])
        self.assertEqual(house.next_deed(), ("e", None))
        self.check_led(house)

    def test_many_deeds_that_cost_nothing(self):
        for many in (2, 7, 39):
            names = [f"x{k}" for k in range(many + 1)]
            items = [(name, 0) for name in names[:-1]] + [(names[-1], 1)]
            order = tuple(names)
            for side, goal in itertools.product(SIDES, (order[-1:] + order[:-1], order[-1:] + order[-2::-1])):
                house = done_anew(Book(side, items, []), order, [("goal", goal)])
                for _ in range(many):
                    house.do(("put", *house.next_deed()))
                self.assertIsNone(house.next_deed())
                self.assertEqual((house.order(), house.account()), (goal, (0, 0, 0)))

    def test_nailed_items(self):
        house = done_anew(book_b(), F, [("goal", G), ("nail", "b")])
        self.assertEqual(fewest(house), (8, 3))
        self.check_led(house)


class TestGreatHouses(Houses):
    def test_forty_items_and_four_hundred_acts(self):
        for side in SIDES:
            book, one, other = great_pair(side, 104)
            house = House(book, one)
            begun = time.perf_counter()
            self.assertEqual(house.do(("goal", other)), 1)
            least = least_price(book, one, other)
            count = 0
            while house.next_deed() is not None:
                house.do(("put", *house.next_deed()))
                count += 1
            self.assertEqual(house.order(), other)
            self.assertLess(count, 40)
            self.assertEqual(house.account(), (least, 0, least))
            draw = random.Random(105)
            while len(house.acts()) < 400:
                name = draw.choice(house.book().names())
                act = draw.choice([("put", name, draw.choice(house.order())), ("price", name, draw.randrange(9)),
                                   ("nail", name), ("free", name), ("goal", house.order())])
                if house.act_word(act) is None:
                    house.do(act)
            for k in range(20):
                house.mark(f"m{k}")
                house.undo()
            before = told(house)
            while house.acts():
                house.undo()
            self.assertEqual(house.order(), one)
            for _ in range(380):
                house.redo()
            self.assertEqual(told(house), before)
            self.assertEqual(told(house.twin()), before)
            for k in range(20):
                house.since(f"m{k}")
            self.assertLess(time.perf_counter() - begun, 15)


class TestNothingChanged(Houses):
    def test_arguments_stay(self):
        book, act = book_b(), ["goal", list(G), {"a": []}]
        house = House(book, F)
        with Untouched(self, act, F):
            house.act_word(act)
            house.act_word(("say", "a", act))
            house.act_word(("goal", act))
            raised(BadAct, house.do, act)
            raised(UnknownName, house.since, act)
        house.do(("price", "a", 70))
        house.do(("say", "d", ("a", "b")))
        self.assertEqual(book, book_b())

    def test_new_each_time(self):
        house = done_anew(book_b(), F, [("goal", G), ("nail", "c")])
        house.mark("m")
        for call, again in (
            (house.nailed, ["c"]), (house.acts, [("goal", G), ("nail", "c")]), (house.marks, ["m"]),
        ):
            first = call()
            self.assertEqual(first, again)
            first.clear()
            self.assertEqual(call(), again)
        house.book().all_items().clear()
        house.book().sayings().clear()
        self.assertEqual(house.book(), book_b())

    def test_plain_tuples(self):
        house = done_anew(book_b(), F, [("goal", G)])
        house.mark("m")
        for value in (house.order(), house.goal(), house.account(), house.since("m"), house.next_deed()):
            self.assertIs(value.__class__, tuple)
        for value in house.since("m")[:2]:
            self.assertIs(value.__class__, tuple)
        self.assertEqual(copy.deepcopy(house.acts()), house.acts())


if __name__ == "__main__":
    unittest.main()
