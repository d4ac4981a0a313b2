"""Consoles: lines, answers and first wrong places by all forms together (S10.5, S1.4, S1.5)."""

import itertools
import random
import re
import unittest

from plainhouse import draw_act
from samples import Untouched, book_b, book_with, drawn_books, orders_of
from test_house import plain_of, told
from takenout.books import Book
from takenout.console import Console
from takenout.errors import BadAct
from takenout.house import House

F = ("a", "c", "d", "b")
G = ("b", "c", "d", "a")
FORMS = (
    "put NAME PLACE ;", "goal NAMES ;", "come NAME costs NUMBER PLACE and PLACE ;", "go NAME ;",
    "say NAME needs NAME NAMES ;", "unsay NUMBER ;", "price NAME costs NUMBER ;", "nail NAME ;", "free NAME ;",
    "undo ;", "redo ;", "mark NAME ;", "since NAME ;", "owed ;", "account ;", "show order ;", "show goal ;",
    "next ;",
)
# Each lexeme that is wrong somewhere.
LEXEMES = ("a", "b", "first", "behind", "and", "costs", "needs", "order", "goal", "0", "17", "{", "}", ";", "e", "put")
NO_LEXEMES = ("$", "-", "\t", "A", ",", "abcdefghijklm", "_", "~")
LINES = (
    "put b first ;", "put b behind a ;", "goal a b c d ;", "goal ;", "come e costs 5 first and behind b ;",
    "come first costs 0 behind a and first ;", "go d ;", "say d needs a ;", "say d needs a b ;", "unsay 0 ;",
    "price a costs 17 ;", "nail c ;", "free c ;", "undo ;", "redo ;", "mark m ;", "since m ;", "owed ;",
    "account ;", "show order ;", "show goal ;", "next ;",
)


def spread(form):
    """All ways in which the lexemes of a form can go on, with up to eight names for a star."""
    rows = [[]]
    for part in form.split():
        ways = {
            "PLACE": [["first"], ["behind", "NAME"]], "NAMES": [["NAME"] * many for many in range(9)],
        }.get(part, [[part]])
        rows = [row + way for row in rows for way in ways]
    return rows


WAYS = [row for form in FORMS for row in spread(form)]


def plain_lexemes(line):
    """The pairs of a lexeme and its place, and the place of what begins none, or None."""
    found = []
    at = 0
    while at < len(line):
        if line[at] in " \n":
            at += 1
            continue
        match = re.compile(r"[a-z][a-z0-9]*|0|[1-9][0-9]*|[{};]").match(line, at)
        if match is None or match.group()[0].isalpha() and len(match.group()) > 12:
            return found, at
        found.append((match.group(), at))
        at = match.end()
    return found, None


def fits(part, lexeme):
    """Whether a lexeme may stand for a part of a form."""
    if part == "NAME":
        return lexeme[0].isalpha()
    return lexeme.isdigit() if part == "NUMBER" else lexeme == part


def wrong_place(line):
    """The first wrong place of a line by all forms together, or None if it is of one."""
    found, stop = plain_lexemes(line)
    ways = WAYS
    for k, (lexeme, place) in enumerate(found):
        ways = [row for row in ways if k < len(row) and fits(row[k], lexeme)]
        if not ways:
            return place
    if stop is not None:
        return stop
    return None if any(len(row) == len(found) for row in ways) else len(line)


def line_of(act):
    """The line that does an act, if its parts are words, numbers and None."""
    def place(value):
        return "first" if value is None else "behind " + value
    word, *rest = act
    if word == "put":
        return f"put {rest[0]} {place(rest[1])} ;"
    if word == "come":
        return f"come {rest[0]} costs {rest[1]} {place(rest[2])} and {place(rest[3])} ;"
    if word == "say":
        return f"say {rest[0]} needs {' '.join(rest[1])} ;"
    if word == "price":
        return f"price {rest[0]} costs {rest[1]} ;"
    if word == "goal":
        return " ".join(["goal", *rest[0], ";"])
    return f"{word} {rest[0]} ;"


class Consoles(unittest.TestCase):
    def house(self, *acts):
        """A house of B at which some acts are done."""
        house = House(book_b(), F)
        for act in acts:
            house.do(act)
        return house

    def check(self, house, pairs):
        """Lines are answered as told, one after another."""
        console = Console(house)
        for line, answer in pairs:
            self.assertEqual(console.answer(line), answer, line)

    def check_wrong(self, console, house, line, place):
        """A line is answered with its first wrong place, and changes nothing."""
        before = (told(house), house.marks())
        self.assertEqual(console.answer(line), f"no {place}", repr(line))
        self.assertEqual((told(house), house.marks()), before)


class TestExamples(Consoles):
    def test_told(self):
        self.check(self.house(), [
            ("undo ; undo ;", "no 7"), ("show x ;", "no 5"), ("foo $", "no 0"), ("show order ;", "a c d b"),
            ("account ;", "paid 0 waste 0 given 0"), ("mark m ;", "done"), ("since m ;", "came; went; costs 0"),
        ])

    def test_a_whole_way(self):
        self.check(self.house(), [
            ("goal b c d a ;", "done"), ("owed ;", "3"), ("next ;", "put b first"), ("put b first ;", "done"),
            ("owed ;", "1"), ("next ;", "put a behind d"), ("put a behind d ;", "done"), ("next ;", "none"),
            ("account ;", "paid 3 waste 0 given 3"), ("show order ;", "b c d a"), ("show goal ;", "b c d a"),
        ])


class TestEachForm(Consoles):
    def test_put(self):
        self.check(self.house(("nail", "d")), [
            ("put b first ;", "done"), ("show order ;", "b a c d"), ("put b behind a ;", "done"),
            ("show order ;", "a b c d"), ("put e first ;", "no item"), ("put d first ;", "no nailed"),
            ("put b behind b ;", "no place"), ("put b behind e ;", "no place"), ("put c first ;", "no broken"),
            ("show order ;", "a b c d"), ("account ;", "paid 4 waste 6 given 0"),
        ])

    def test_goal(self):
        self.check(self.house(), [
            ("goal b c d a ;", "done"), ("show goal ;", "b c d a"), ("goal ;", "no order"),
            ("goal a b c ;", "no order"), ("goal a b c d d ;", "no order"), ("goal d c b a ;", "no broken"),
            ("nail a ;", "done"), ("goal a b c d ;", "done"), ("nail c ;", "done"),
            ("goal b c d a ;", "no crossed"), ("show goal ;", "a b c d"),
        ])
        self.check(House(Book("ahead", [], []), ()), [
            ("goal ;", "done"), ("show goal ;", ""), ("show order ;", ""), ("next ;", "none"), ("owed ;", "0"),
        ])

    def test_come_and_go(self):
        self.check(self.house(), [
            ("come e costs 5 behind d and first ;", "done"), ("show order ;", "a c d e b"),
            ("show goal ;", "e a c d b"), ("owed ;", "5"), ("come e costs 5 first and first ;", "no name"),
            ("come f costs 5 first and behind f ;", "no place"), ("come f costs 5 behind f and first ;", "no place"),
            ("come first costs 0 behind e and behind e ;", "done"), ("go e ;", "done"), ("go e ;", "no item"),
            ("go c ;", "no broken"), ("show order ;", "a c d first b"), ("show goal ;", "first a c d b"),
        ])

    def test_say_and_unsay(self):
        house = self.house()
        self.check(house, [
            ("say d needs a b ;", "done"), ("say d needs a ;", "done"), ("say d needs b ;", "no broken"),
            ("say d needs d ;", "no form"), ("say d needs a a ;", "no form"), ("say e needs a ;", "no form"),
            ("unsay 4 ;", "no number"), ("unsay 0 ;", "done"), ("unsay 3 ;", "no number"),
        ])
        self.assertEqual(house.book().sayings(), [("d", ("c",)), ("d", ("a", "b")), ("d", ("a",))])

    def test_price_nail_and_free(self):
        house = self.house(("goal", G))
        self.check(house, [
            ("price b costs 0 ;", "done"), ("owed ;", "1"), ("price e costs 0 ;", "no item"), ("nail b ;", "done"),
            ("nail b ;", "no nailed"), ("nail a ;", "no crossed"), ("nail e ;", "no item"), ("owed ;", "8"),
            ("free b ;", "done"), ("free b ;", "no nailed"), ("free e ;", "no item"), ("owed ;", "1"),
            ("account ;", "paid 0 waste 0 given 1"), ("price b costs " + "9" * 31 + " ;", "done"),
        ])
        self.assertEqual(house.book().price("b"), 10 ** 31 - 1)

    def test_undo_and_redo(self):
        house = self.house()
        self.check(house, [
            ("undo ;", "no nothing"), ("redo ;", "no nothing"), ("put b first ;", "done"), ("redo ;", "no nothing"),
            ("undo ;", "done"), ("show order ;", "a c d b"), ("put c first ;", "no broken"), ("x", "no 0"),
            ("mark m ;", "done"), ("redo ;", "done"), ("redo ;", "no nothing"), ("show order ;", "b a c d"),
            ("undo ;", "done"), ("nail a ;", "done"), ("redo ;", "no nothing"),
        ])
        self.assertEqual(house.acts(), [("nail", "a")])

    def test_mark_and_since(self):
        self.check(self.house(), [
            ("since m ;", "no mark"), ("mark m ;", "done"), ("put b first ;", "done"),
            ("since m ;", "came; went; costs 2"), ("come x costs 7 first and first ;", "done"),
            ("come y costs 7 first and first ;", "done"), ("since m ;", "came x y; went; costs 2"), ("mark n ;", "done"),
            ("go d ;", "done"), ("since m ;", "came x y; went d; costs 2"), ("go c ;", "done"),
            ("since m ;", "came x y; went c d; costs 1"), ("since n ;", "came; went c d; costs 0"),
            ("since o ;", "no mark"), ("mark n ;", "done"), ("since n ;", "came; went; costs 0"),
        ])

    def test_account(self):
        self.check(House(book_with("ab", [], prices=[2, 3]), ("a", "b")), [
            ("goal b a ;", "done"), ("nail a ;", "done"), ("account ;", "paid 0 waste 0 given 3"),
            ("put b first ;", "done"), ("account ;", "paid 3 waste 0 given 3"), ("put b behind a ;", "done"),
            ("account ;", "paid 6 waste 6 given 3"), ("goal a b ;", "done"), ("account ;", "paid 6 waste 6 given 0"),
        ])
        self.check(House(book_with("ab", [], prices=[2, 3]), ("a", "b")), [
            ("goal b a ;", "done"), ("account ;", "paid 0 waste 0 given 2"), ("put b first ;", "done"),
            ("account ;", "paid 3 waste 1 given 2"), ("goal a b ;", "done"), ("put b behind a ;", "done"),
            ("account ;", "paid 6 waste 2 given 4"), ("goal b a ;", "done"), ("price a costs 0 ;", "done"),
            ("account ;", "paid 6 waste 2 given 4"),
        ])

    def test_given_below_0(self):
        house = House(book_with("abc", [], prices=[9, 9, 1]), tuple("abc"))
        self.check(house, [
            ("put c first ;", "done"), ("account ;", "paid 1 waste 2 given 0"), ("owed ;", "1"),
            ("goal c a b ;", "done"), ("account ;", "paid 1 waste 2 given -1"), ("owed ;", "0"),
        ])

    def test_next(self):
        house = self.house(("goal", G), ("nail", "b"))
        console = Console(house)
        for _ in range(3):
            answer = console.answer("next ;")
            self.assertRegex(answer, r"^put [a-d] (first|behind [a-d])$")
            self.assertEqual(console.answer(answer + " ;"), "done")
        self.assertEqual(console.answer("next ;"), "none")
        self.assertEqual(house.order(), G)


class TestNames(Consoles):
    def test_words_of_forms(self):
        house = House(book_with(("first", "and", "put"), []), ("put", "and", "first"))
        self.check(house, [
            ("goal first and put ;", "done"), ("put first first ;", "done"), ("put put behind first ;", "done"),
            ("show order ;", "first put and"), ("come behind costs 1 behind and and behind and ;", "done"),
            ("show order ;", "first put and behind"), ("show goal ;", "first and behind put"),
            ("say put needs first and ;", "done"), ("mark mark ;", "done"), ("go go ;", "no item"),
            ("come needs costs 0 first and first ;", "done"), ("say and needs needs ;", "done"),
            ("since mark ;", "came needs; went; costs 0"), ("nail first ;", "done"), ("free first ;", "done"),
            ("price and costs 3 ;", "done"),
        ])


class TestGaps(Consoles):
    def test_any_gaps(self):
        for line in LINES:
            expected = Console(self.marked()).answer(line)
            for other in (
                line.replace(" ", "\n"), line.replace(" ", "  \n "), " \n" + line + "\n\n ", line.replace(" ;", ";"),
                re.sub(r"(\d+) ", r"\1", line),
            ):
                self.assertIsNone(wrong_place(other))
                self.assertEqual(Console(self.marked()).answer(other), expected, repr(other))

    def marked(self):
        """A house at which each of the lines tells something."""
        house = self.house(("goal", G), ("nail", "c"), ("price", "b", 3))
        house.mark("m")
        house.undo()
        return house

    def test_no_gaps_are_needed_at_numbers(self):
        self.check(self.house(), [
            ("price a costs 5;", "done"), ("unsay 0;", "done"), ("come e costs 12behind a and first;", "done"),
            ("show order ;", "a e c d b"), ("come f costs 0first and first;", "done"), ("price a costs 05;", "no 15"),
            ("unsay 00;", "no 7"), ("priceacosts5;", "no 0"), ("undo;", "done"),
        ])


class TestWrongPlaces(Consoles):
    def test_each_lexeme_otherwise(self):
        house = self.house(("goal", G), ("nail", "c"))
        console = Console(house)
        tried = 0
        for line in LINES:
            lexemes = line.split()
            for k in range(len(lexemes) + 1):
                ways = [lexemes[:k]] + [
                    lexemes[:k] + [other] + lexemes[j:]
                    for other in LEXEMES + NO_LEXEMES for j in (k, k + 1)
                ] + [lexemes[:k] + lexemes[k + 1:]]
                for row in ways:
                    for other in (" ".join(row), " ".join(row) + " ", "\n" + "  ".join(row)):
                        place = wrong_place(other)
                        if place is not None:
                            self.check_place(console, other, place)
                            tried += 1
        self.assertGreater(tried, 5000)
        self.assertEqual(told(house), told(self.house(("goal", G), ("nail", "c"))))
        self.assertEqual(house.marks(), [])

    def check_place(self, console, line, place):
        """A line is answered with its first wrong place."""
        self.assertEqual(console.answer(line), f"no {place}", repr(line))

    def test_each_sign_otherwise(self):
        house = self.house(("goal", G))
        console = Console(house)
        for line in LINES:
            for k in range(len(line) + 1):
                for sign in "$-\tA;{0 a":
                    for other in (line[:k] + sign + line[k:], line[:k] + sign + line[k + 1:], line[:k]):
                        place = wrong_place(other)
                        if place is not None:
                            self.check_place(console, other, place)
        self.assertEqual(told(house), told(self.house(("goal", G))))

    def test_told(self):
        house = self.house()
        console = Console(house)
        for line, place in (
            ("", 0), (" ", 1), ("\n \n", 3), (";", 0), ("undo", 4), ("undo  ", 6), ("undo ; ;", 7), ("undo $", 5),
            ("undo ;$", 6), ("undo ; x $", 7), ("Undo ;", 0), ("undone ;", 0), ("put a behind ;", 13), ("put a ;", 6),
            ("put a first first ;", 12), ("put 5 first ;", 4), ("put a behind b", 14), ("goal a 5 ;", 7),
            ("goal a b", 8), ("come e costs x ;", 13), ("come e costs 5 first behind a ;", 21),
            ("come e costs 5 and first ;", 15), ("come e 5 ;", 7), ("say a needs ;", 12), ("say a ;", 6),
            ("unsay a ;", 6), ("unsay -1 ;", 6), ("unsay 007 ;", 7), ("price a 5 ;", 8), ("price a costs a ;", 14),
            ("price a costs 5 5 ;", 16), ("nail ;", 5), ("nail a b ;", 7), ("show ;", 5), ("show order order ;", 11),
            ("show goal", 9), ("mark 5 ;", 5), ("since ;", 6), ("next 1 ;", 5), ("owed\t;", 4), ("abcdefghijklm ;", 0),
            ("mark abcdefghijklm ;", 5), ("mark abcdefghijkl", 17), ("put a { ;", 6), ("} undo ;", 0), ("7", 0),
            ("undo ; undo ;", 7), ("show x ;", 5), ("foo $", 0), ("$ foo", 0), ("book behind { }", 0),
        ):
            self.assertEqual(wrong_place(line), place, repr(line))
            self.check_wrong(console, house, line, place)

    def test_long_lines(self):
        house = self.house()
        console = Console(house)
        self.check_wrong(console, house, "goal " + "a " * 900 + "5", 1805)
        self.check_wrong(console, house, "undo " + "9" * 1900, 5)
        self.check_wrong(console, house, " " * 1990 + "undo", 1994)
        self.assertEqual(console.answer("goal " + "a " * 900 + ";"), "no order")
        self.assertEqual(console.answer(" " * 1900 + "undo\n;"), "no nothing")


class TestDrawnLines(Consoles):
    def test_as_the_house_itself(self):
        draw = random.Random(110)
        done = 0
        for book in drawn_books(120, seed=111):
            for order in orders_of(book)[:1]:
                house, other = House(book, order), House(book, order)
                consoles = [Console(house), Console(house)]
                for _ in range(15):
                    act = draw_act(draw, plain_of(house))
                    if any(value == -1 for value in act) or act[0] == "say" and not act[2]:
                        continue
                    answer = draw.choice(consoles).answer(line_of(act))
                    try:
                        other.do(act)
                        self.assertEqual(answer, "done")
                        done += 1
                    except BadAct as error:
                        self.assertEqual(answer, "no " + error.word)
                    if draw.randrange(5) == 0 and other.acts():
                        other.undo()
                        self.assertEqual(consoles[0].answer("undo ;"), "done")
                    self.assertEqual(told(house), told(other))
                    self.check_asked(draw.choice(consoles), other)
        self.assertGreater(done, 300)

    def check_asked(self, console, house):
        """What is asked is answered as a house tells it."""
        self.assertEqual(console.answer("owed ;"), str(house.owed()))
        paid, waste, given = house.account()
        self.assertEqual(console.answer("account ;"), f"paid {paid} waste {waste} given {given}")
        self.assertEqual(console.answer("show order ;"), " ".join(house.order()))
        self.assertEqual(console.answer("show goal ;"), " ".join(house.goal()))
        deed = house.next_deed()
        expected = "none" if deed is None else line_of(("put", *deed))[:-2]
        self.assertEqual(console.answer("next ;"), expected)


class TestTwoConsoles(Consoles):
    def test_at_one_house(self):
        house = self.house()
        one, other = Console(house), Console(house)
        self.assertEqual(one.answer("goal b c d a ;"), "done")
        self.assertEqual(other.answer("owed ;"), "3")
        self.assertEqual(other.answer("put b first ;"), "done")
        self.assertEqual(one.answer("mark m ;"), "done")
        self.assertEqual(one.answer("undo ;"), "done")
        self.assertEqual(other.answer("redo ;"), "done")
        self.assertEqual(other.answer("since m ;"), "came; went; costs 0")
        self.assertEqual((house.order(), house.marks()), (("b", "a", "c", "d"), ["m"]))
        house.do(("nail", "c"))
        self.assertEqual(one.answer("nail c ;"), "no nailed")
        twin = Console(house.twin())
        self.assertEqual(twin.answer("free c ;"), "done")
        self.assertEqual(one.answer("nail c ;"), "no nailed")

    def test_the_very_house(self):
        house = self.house()
        console = Console(house)
        with Untouched(self, F, G):
            for line, count in (("goal b c d a ;", 1), ("x", 1), ("put b first ;", 2), ("undo ;", 1), ("next ;", 1)):
                console.answer(line)
                self.assertEqual(len(house.acts()), count)

    def test_repeated(self):
        for first, second in itertools.product(LINES, repeat=2):
            answers = []
            for _ in range(2):
                console = Console(self.house(("goal", G), ("nail", "c")))
                answers.append((console.answer(first), console.answer(second)))
            self.assertEqual(*answers)
            self.assertIs(answers[0][0].__class__, str)


if __name__ == "__main__":
    unittest.main()
