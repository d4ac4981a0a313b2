"""What holds over the whole program: texts, houses and consoles together, sayings, mirrored books."""

import itertools
import random
import unittest

from plainhouse import draw_act, put_in
from samples import all_sayings, drawn_books, great_pair, kept, orders_of
from test_house import done_anew, plain_of, told
from takenout.books import Book, mirrored_book, with_sayings
from takenout.booktexts import book_text, order_text, read_book, read_order
from takenout.choosing import all_between, is_between, next_deeds
from takenout.console import Console
from takenout.deeds import led, script_price
from takenout.following import follows, lean_book
from takenout.house import House
from takenout.laying import any_order, laid
from takenout.leastprices import cheapest_script, judge_price, least_price, price_paper
from takenout.lexemes import lexemes
from takenout.madebooks import book_of, joined_book, least_sayings
from takenout.nails import kept_cost, nailed_price
from takenout.orders import is_order, mirrored_order
from takenout.plainwalks import walk_prices
from takenout.pricelines import price_line
from takenout.rowcounts import count_rows, count_with
from takenout.rows import dearest_price, dearest_row
from takenout.scripttexts import read_script, script_text
from takenout.thresholds import standing, threshold
from takenout.times import judge_times, times
from takenout.together import count_together, is_together, together_at, together_number
from takenout.tours import tour_price


def pairs_of(book, many=4):
    """Some pairs of orders of a book."""
    return itertools.product(orders_of(book)[:many], orders_of(book)[-many:])


class TestTextsAndHouses(unittest.TestCase):
    def lead(self, book, one, other):
        """A book and two orders are written, read back, and a console leads the one to the other."""
        house = House(read_book(book_text(book)), read_order(order_text(one)))
        console = Console(house)
        least = least_price(book, one, other)
        self.assertEqual(console.answer("mark begun ;"), "done")
        self.assertEqual(console.answer(" ".join(["goal", *other]) + ";"), "done")
        self.assertEqual(console.answer("owed ;"), str(least))
        deeds = []
        while (answer := console.answer("next ;")) != "none":
            self.assertEqual(console.answer(answer + ";"), "done")
            deeds.append(answer + ";")
        self.assertEqual(console.answer("show order ;"), " ".join(other))
        self.assertEqual(console.answer("account ;"), f"paid {least} waste 0 given {least}")
        self.assertEqual(console.answer("since begun ;"), f"came; went; costs {least}")
        script = read_script("script {" + "".join(deeds) + "}")
        self.assertEqual(script, [act[1:] for act in house.acts()[1:]])
        self.assertEqual(led(book, one, script), other)
        self.assertEqual(script_price(book, script), least)
        self.assertIsNone(judge_price(book, one, other, (script, times(book, [one, other]))))
        self.assertEqual(read_script(script_text(script)), script)
        for _ in range(len(deeds) + 1):
            self.assertEqual(console.answer("undo ;"), "done")
        self.assertEqual(told(house), told(House(book, one)))
        for _ in deeds:
            self.assertEqual(console.answer("redo ;"), "done")

    def test_small_books(self):
        for book in drawn_books(60, seed=120):
            for one, other in pairs_of(book, 3):
                self.lead(book, one, other)

    def test_great_books(self):
        for side in ("behind", "ahead"):
            self.lead(*great_pair(side, 121))

    def test_a_written_house(self):
        draw = random.Random(122)
        for book in drawn_books(40, seed=123):
            for order in orders_of(book)[:1]:
                house = House(book, order)
                for _ in range(12):
                    act = draw_act(draw, plain_of(house))
                    if house.act_word(act) is None and (act[0] != "come" or len(house.order()) < 6):
                        house.do(act)
                self.assertEqual(read_book(book_text(house.book())), house.book())
                self.assertEqual(read_order(order_text(house.goal())), house.goal())
                self.assertIs(is_order(house.book(), house.order()), True)
                self.assertIs(is_order(house.book(), house.goal()), True)
                self.lead(house.book(), house.order(), house.goal())

    def test_lines_are_made_of_lexemes(self):
        line = "come e costs 12behind a and first;"
        self.assertEqual([it[1] for it in lexemes(line)], [
            "come", "e", "costs", "12", "behind", "a", "and", "first", ";",
        ])


class TestSayingsNeverCost(unittest.TestCase):
    def all_of(self, book, one, other):
        """What hangs on prices and orders alone."""
        orders = [one, other]
        return (
            least_price(book, one, other), dearest_row(book, orders), dearest_price(book, orders),
            [threshold(book, orders, name) for name in book.names()], standing(book, orders),
            [price_line(book, one, other, name) for name in book.names()], count_rows(book, orders),
            [kept_cost(book, one, other, name) for name in book.names()], times(book, orders),
        )

    def test_sayings_put_in_and_taken_out(self):
        draw = random.Random(124)
        for book in drawn_books(60, seed=125):
            for one, other in pairs_of(book, 3):
                free = Book(book.side(), book.all_items(), [])
                more = [
                    saying for saying in all_sayings(book.names())
                    if kept(book.side(), one, saying) and kept(book.side(), other, saying)
                ]
                full = with_sayings(book, draw.sample(more, min(len(more), 8)))
                expected = self.all_of(book, one, other)
                self.assertEqual(self.all_of(free, one, other), expected)
                self.assertEqual(self.all_of(full, one, other), expected)
                script = cheapest_script(full, one, other)
                self.assertEqual((led(full, one, script), script_price(full, script)), (other, expected[0]))

    def test_in_a_house(self):
        draw = random.Random(126)
        for book in drawn_books(60, seed=127):
            for one, other in pairs_of(book, 2):
                house = done_anew(book, one, [("goal", other)])
                before = (house.owed(), house.account())
                for saying in draw.sample(all_sayings(book.names()), 20):
                    act = ("say", *saying)
                    if house.act_word(act) is None:
                        house.do(act)
                while house.book().sayings():
                    house.do(("unsay", draw.randrange(len(house.book().sayings()))))
                    self.assertEqual((house.owed(), house.account()), before)
                self.assertEqual(told(house)[1:6], told(done_anew(book, one, [("goal", other)]))[1:6])

    def test_the_book_of_two_orders_is_the_narrowest(self):
        for book in drawn_books(40, seed=128):
            for one, other in pairs_of(book, 2):
                narrow = book_of(book.side(), book.all_items(), [one, other])
                self.assertEqual(self.all_of(narrow, one, other), self.all_of(book, one, other))
                for order in orders_of(narrow):
                    self.assertIs(is_order(book, order), True)
                    self.assertIs(is_together(book.side(), [one, other], order), True)
                self.assertEqual(orders_of(joined_book(narrow, book)), orders_of(narrow))
                for saying in book.sayings():
                    self.assertIs(follows(narrow, saying), True)
                self.assertEqual(
                    count_together(book.side(), [one, other]), len(walk_prices(narrow, one))
                )


class TestMirrored(unittest.TestCase):
    def test_orders_and_prices(self):
        for book in drawn_books(50, seed=129):
            turned = mirrored_book(book)
            self.assertEqual(laid(turned, book.names()), laid(book, book.names()))
            self.assertEqual(orders_of(turned), sorted(map(mirrored_order, orders_of(book))))
            if orders_of(book):
                self.assertEqual(any_order(turned), mirrored_order(any_order(book)))
                self.assertEqual(lean_book(turned), mirrored_book(lean_book(book)))
            for one, other in pairs_of(book, 3):
                ends = (mirrored_order(one), mirrored_order(other))
                price = least_price(book, one, other)
                self.assertEqual(least_price(turned, *ends), price)
                script, told_times = price_paper(turned, *ends)
                self.assertIsNone(judge_price(turned, *ends, (script, told_times)))
                self.assertEqual(judge_times(turned, ends, told_times), book.total() - price)
                for name in book.names():
                    self.assertEqual(nailed_price(turned, *ends, [name]), nailed_price(book, one, other, [name]))
                    self.assertEqual(price_line(turned, *ends, name), price_line(book, one, other, name))
                    self.assertEqual(count_with(turned, ends, name), count_with(book, (one, other), name))
                self.assertEqual(count_rows(turned, ends), count_rows(book, [one, other]))
                self.assertEqual(tour_price(turned, [*ends, ends[0]], ()), 2 * price)

    def test_next_deeds_and_orders_between(self):
        for book in drawn_books(40, seed=130):
            turned = mirrored_book(book)
            for one, other in pairs_of(book, 3):
                ends = (mirrored_order(one), mirrored_order(other))
                behind = {(deed[0], put_in(one, *deed)) for deed in next_deeds(book, one, other)}
                mirrored = {(deed[0], put_in(ends[0], *deed)[::-1]) for deed in next_deeds(turned, *ends)}
                self.assertEqual(mirrored, behind)
                between = all_between(book, one, other)
                self.assertEqual(sorted(map(mirrored_order, all_between(turned, *ends))), sorted(between))
                for order in between:
                    self.assertIs(is_between(turned, *ends, order[::-1]), True)

    def test_together(self):
        for book in drawn_books(30, seed=131):
            names, side, other_side = book.names(), book.side(), mirrored_book(book).side()
            orders = orders_of(book)[:3]
            if orders:
                turned = [order[::-1] for order in orders]
                count = count_together(side, orders)
                self.assertEqual(count_together(other_side, turned), count)
                for number in range(count):
                    order = together_at(side, orders, number)
                    self.assertEqual(together_at(other_side, turned, number), order[::-1])
                    self.assertEqual(together_number(other_side, turned, order[::-1]), number)
                for name in names:
                    self.assertEqual(
                        least_sayings(other_side, turned, names, name), least_sayings(side, orders, names, name)
                    )

    def test_houses(self):
        draw = random.Random(132)
        for book in drawn_books(60, seed=133):
            for order in orders_of(book)[:1]:
                house = House(book, order)
                turned = House(mirrored_book(book), order[::-1])
                for _ in range(15):
                    act = draw_act(draw, plain_of(house))
                    other = self.turned_act(act, house)
                    self.assertEqual(house.act_word(act), turned.act_word(other))
                    if house.act_word(act) is None and (act[0] != "come" or len(house.order()) < 6):
                        self.assertEqual(house.do(act), turned.do(other))
                    self.assertEqual(turned.book(), mirrored_book(house.book()))
                    self.assertEqual((turned.order(), turned.goal()), (house.order()[::-1], house.goal()[::-1]))
                    self.assertEqual(
                        (turned.owed(), turned.account(), turned.nailed()),
                        (house.owed(), house.account(), house.nailed()),
                    )

    def turned_act(self, act, house):
        """The act that does the same at the mirrored house."""
        if act[0] == "goal":
            return ("goal", act[1][::-1])
        if house.act_word(act) not in (None, "broken") or act[0] not in ("put", "come"):
            return act
        if act[0] == "put":
            return ("put", act[1], self.turned_place(house.order(), act[1], act[2]))
        places = [
            self.turned_place(order, act[1], place)
            for order, place in zip((house.order(), house.goal()), act[3:])
        ]
        return (*act[:3], *places)

    def turned_place(self, order, name, place):
        """What stands right ahead of a name in the mirrored order, if it is put behind a place."""
        turned = put_in(order, name, place)[::-1]
        at = turned.index(name)
        return None if at == 0 else turned[at - 1]


if __name__ == "__main__":
    unittest.main()
