"""Orders read together of given ones, their papers and their numbers (S8.1 to S8.4, S8.7)."""

import itertools
import random
import time
import unittest

from samples import ODD, Untouched, all_sayings, kept, raised, read_together
from takenout.errors import TooGreat
from takenout.together import (
    count_together, is_together, judge_together, together_at, together_number, together_paper,
)

F = ("a", "c", "d", "b")
G = ("b", "c", "d", "a")
SIDES = ("behind", "ahead")
BEHIND = ["acdb", "acbd", "abcd", "bacd", "bcad", "bcda"]
AHEAD = ["acdb", "cadb", "cdab", "cdba", "cbda", "bcda"]


def drawn_lists(count, seed, names="abcde", most=3):
    """A side and some orders of the same names."""
    draw = random.Random(seed)
    for _ in range(count):
        many = draw.randrange(len(names) + 1)
        orders = [tuple(draw.sample(names[:many], many)) for _ in range(draw.randrange(1, most + 1))]
        yield draw.choice(SIDES), orders


def plain_list(side, orders):
    """All orders read together of orders, in the sequence of S8.4."""
    if side == "ahead":
        return [order[::-1] for order in plain_list("behind", [order[::-1] for order in orders])]
    told = []
    for order in itertools.permutations(orders[0]):
        numbers = []
        for k, name in enumerate(order):
            firsts = [next(it for it in one if it not in order[:k]) for one in orders]
            if name in firsts:
                numbers.append(firsts.index(name))
        if len(numbers) == len(order):
            told.append((numbers, order))
    return [order for _, order in sorted(told)]


def plain_bars(side, orders, order):
    """All sayings, some in any sequence, that all orders keep and another one does not."""
    return [
        (name, turned)
        for name, some in all_sayings(order)
        if all(kept(side, one, (name, some)) for one in orders) and not kept(side, order, (name, some))
        for turned in itertools.permutations(some)
    ]


def plain_numbers(side, orders, order):
    """All tuples of numbers of which an order is read."""
    if side == "ahead":
        return plain_numbers("behind", [one[::-1] for one in orders], order[::-1])
    told = [()]
    for k, name in enumerate(order):
        firsts = [next(it for it in one if it not in order[:k]) for one in orders]
        told = [row + (j,) for row in told for j, first in enumerate(firsts) if first == name]
    return told


class TestExamples(unittest.TestCase):
    def test_by_their_numbers(self):
        for side, expected in zip(SIDES, (BEHIND, AHEAD)):
            self.assertEqual(count_together(side, [F, G]), 6)
            self.assertEqual([together_at(side, [F, G], k) for k in range(6)], [tuple(it) for it in expected])
            self.assertEqual([together_number(side, [F, G], tuple(it)) for it in expected], list(range(6)))
            for order in itertools.permutations("abcd"):
                self.assertIs(is_together(side, [F, G], order), "".join(order) in expected)

    def test_papers(self):
        self.assertEqual(together_paper("behind", [F, G], tuple("abcd")), ("read", (0, 1, 0, 0)))
        self.assertIs(judge_together("behind", [F, G], tuple("abcd"), ("read", (0, 1, 1, 0))), True)
        self.assertIs(judge_together("behind", [F, G], tuple("abcd"), ("read", (0, 0, 1, 0))), False)
        self.assertEqual(together_paper("ahead", [F, G], tuple("cadb")), ("read", (0, 0, 1, 0)))
        for bars in (("bars", "c", ("a", "b")), ("bars", "c", ("b", "a"))):
            for side in SIDES:
                order = tuple("cabd") if side == "behind" else tuple("dbac")
                self.assertIs(judge_together(side, [F, G], order, bars), True)
                self.assertEqual(sorted(together_paper(side, [F, G], order)[2]), ["a", "b"])

    def test_one_order(self):
        for side in SIDES:
            self.assertEqual(count_together(side, [F]), 1)
            self.assertEqual(count_together(side, [F, F, F]), 1)
            self.assertEqual(together_at(side, [F], 0), F)
            self.assertEqual(together_number(side, [F], F), 0)
            self.assertEqual(together_paper(side, [F], F), ("read", (0, 0, 0, 0)))
            self.assertIs(is_together(side, [F], G), False)
            self.assertEqual(together_paper(side, [F, F], G)[0], "bars")

    def test_no_names(self):
        for side, orders in itertools.product(SIDES, ([()], [(), ()])):
            self.assertIs(is_together(side, orders, ()), True)
            self.assertEqual(together_paper(side, orders, ()), ("read", ()))
            self.assertIs(judge_together(side, orders, (), ("read", ())), True)
            self.assertEqual(count_together(side, orders), 1)
            self.assertEqual(together_at(side, orders, 0), ())
            self.assertEqual(together_number(side, orders, ()), 0)
            raised(TooGreat, together_at, side, orders, 1)


class TestIsTogether(unittest.TestCase):
    def test_against_all_sayings(self):
        for side, orders in drawn_lists(120, seed=60, names="abcd"):
            sayings = [it for it in all_sayings(orders[0]) if all(kept(side, one, it) for one in orders)]
            for order in itertools.permutations(orders[0]):
                expected = all(kept(side, order, saying) for saying in sayings)
                self.assertIs(is_together(side, orders, order), expected)

    def test_five_names_and_up_to_twelve_orders(self):
        for side, orders in drawn_lists(40, seed=61, most=12):
            for order in itertools.islice(itertools.permutations(orders[0]), 0, None, 3):
                self.assertIs(is_together(side, orders, order), read_together(side, orders, order))
            for order in orders:
                self.assertIs(is_together(side, orders, order), True)

    def test_values_of_any_kind(self):
        for side in SIDES:
            for value in ODD + (
                list(F), F[:3], (*F, "a"), ("a", "c", "d", "d"), ("a", "c", "d", "e"), "acdb", (F,),
                ("a", "c", "d", ["b"]), ("a", "c", "d", None), {name: 1 for name in F}, (F, G),
            ):
                self.assertIs(is_together(side, [F, G], value), False, repr(value))
                self.assertIs(is_together(side, (F, G), value), False, repr(value))


class TestPapers(unittest.TestCase):
    def test_any_right_paper(self):
        for side, orders in drawn_lists(120, seed=62, names="abcd", most=5):
            for order in itertools.permutations(orders[0]):
                paper = together_paper(side, orders, order)
                self.assertIs(paper.__class__, tuple)
                if read_together(side, orders, order):
                    self.assertEqual(paper[0], "read")
                    self.assertIn(paper[1], plain_numbers(side, orders, order))
                else:
                    self.assertEqual(paper[0], "bars")
                    self.assertIn(paper[1:], plain_bars(side, orders, order))
                self.assertIs(judge_together(side, orders, order, paper), True)

    def test_judge_all_numbers(self):
        for side, orders in drawn_lists(25, seed=63, names="abcd"):
            for order in itertools.permutations(orders[0]):
                right = plain_numbers(side, orders, order)
                for numbers in itertools.product(range(len(orders) + 1), repeat=len(order)):
                    told = judge_together(side, orders, order, ("read", numbers))
                    self.assertIs(told, numbers in right)

    def test_judge_all_sayings(self):
        for side, orders in drawn_lists(40, seed=64, names="abcd"):
            for order in itertools.permutations(orders[0]):
                right = plain_bars(side, orders, order)
                for name, some in all_sayings(order):
                    for turned in itertools.permutations(some):
                        told = judge_together(side, orders, order, ("bars", name, turned))
                        self.assertIs(told, (name, turned) in right)

    def test_something_otherwise(self):
        order = tuple("abcd")
        for value in (
            ("read", (0, 1, 0)), ("read", (0, 1, 0, 0, 0)), ("read", [0, 1, 0, 0]), ["read", (0, 1, 0, 0)],
            ("read", (0, True, 0, 0)), ("read", (False, 1, 0, 0)), ("read", (0, 1, 0, -2)), ("read", (0, -1, 0, 0)),
            ("read", (0, 1, 0, 2)), ("read", (0, 1, 0, None)), ("read", (0, 1, 0, "0")), ("read", None),
            ("read", ((0,), 1, 0, 0)), ("bars", (0, 1, 0, 0)), ("read", (0, 1, 0, 0), ()), ("read",), ("Read", ()),
            (True, (0, 1, 0, 0)), (None, (0, 1, 0, 0)), ("read", "0100"), ("read", {0: 0, 1: 1, 2: 0, 3: 0}),
            ("bars", "c", ("a", "b")), ("bars", "d", ("c",)), ("read", 10 ** 39), ("read", (10 ** 39, 1, 0, 0)),
        ) + ODD:
            self.assertIs(judge_together("behind", [F, G], order, value), False, repr(value))
        self.assertIs(judge_together("behind", [F, G], order, ("read", (0, 1, 0, 0))), True)

    def test_bars_otherwise(self):
        order = tuple("cabd")
        right = ("bars", "c", ("a", "b"))
        self.assertIs(judge_together("behind", [F, G], order, right), True)
        for value in (
            ("bars", "c", ["a", "b"]), ["bars", "c", ("a", "b")], ("bars", "c", ()), ("bars", "c", ("a",)),
            ("bars", "c", ("a", "b", "c")), ("bars", "c", ("a", "b", "a")), ("bars", "c", ("a", "b", "e")),
            ("bars", "c", ("a", "b", "d"), ()), ("bars", "e", ("a", "b")), ("bars", ("c", ("a", "b"))),
            ("read", "c", ("a", "b")), ("bars", "d", ("a", "b")), ("bars", "c", "ab"), ("bars", "c", None),
            ("bars", None, ("a", "b")), ("bars", ["c"], ("a", "b")), ("bars", "c", ("a", ["b"])),
            ("bars", "c", {"a": 1, "b": 1}), ("bars", "b", ("a",)), ("bars", "c"), (False, "c", ("a", "b")),
            ("read", (0, 0, 0, 0)),
        ) + ODD:
            self.assertIs(judge_together("behind", [F, G], order, value), False, repr(value))
        self.assertIs(judge_together("behind", [F, G], order, ("bars", "c", ("d", "b", "a"))), True)
        self.assertIs(judge_together("ahead", [F, G], order, right), False)


class TestNumbers(unittest.TestCase):
    def test_against_a_plain_list(self):
        for side, orders in drawn_lists(150, seed=65):
            expected = plain_list(side, orders)
            count = len(expected)
            self.assertEqual(count_together(side, orders), count)
            self.assertEqual([together_at(side, orders, k) for k in range(count)], expected)
            for number, order in enumerate(expected):
                self.assertEqual(together_number(side, orders, order), number)
            for number in (count, count + 1, 10 ** 39):
                raised(TooGreat, together_at, side, orders, number)

    def test_an_order_given_twice(self):
        self.assertEqual(plain_list("behind", [F, F, G]), plain_list("behind", [F, G]))
        for side in SIDES:
            self.assertEqual(
                [together_at(side, [G, F, G], k) for k in range(6)], plain_list(side, [G, F])
            )

    def test_two_orders_of_forty_names(self):
        names = tuple(f"x{k}" for k in range(40))
        for side in SIDES:
            begun = time.perf_counter()
            self.assertEqual(count_together(side, [names, names[::-1]]), 2 ** 39)
            self.assertEqual(together_at(side, [names, names[::-1]], 0), names)
            self.assertEqual(together_at(side, [names, names[::-1]], 2 ** 39 - 1), names[::-1])
            self.assertEqual(together_number(side, [names, names[::-1]], names[::-1]), 2 ** 39 - 1)
            raised(TooGreat, together_at, side, [names, names[::-1]], 2 ** 39)
            draw = random.Random(66)
            orders = [tuple(draw.sample(names, 40)) for _ in range(2)]
            count = count_together(side, orders)
            for _ in range(10):
                number = draw.randrange(count)
                order = together_at(side, orders, number)
                self.assertTrue(read_together(side, orders, order))
                self.assertEqual(together_number(side, orders, order), number)
            self.assertEqual(together_at(side, orders, 0), orders[0])
            self.assertEqual(together_number(side, orders, orders[1]), count - 1)
            self.assertLess(time.perf_counter() - begun, 5)

    def test_three_orders_of_twelve_names(self):
        draw = random.Random(67)
        orders = [tuple(draw.sample("abcdefghijkl", 12)) for _ in range(3)]
        for side in SIDES:
            begun = time.perf_counter()
            count = count_together(side, orders)
            for number in (0, 1, count // 3, count - 1):
                order = together_at(side, orders, number)
                self.assertTrue(read_together(side, orders, order))
                self.assertEqual(together_number(side, orders, order), number)
            raised(TooGreat, together_at, side, orders, count)
            self.assertLess(time.perf_counter() - begun, 5)

    def test_twelve_orders_of_forty_names(self):
        draw = random.Random(68)
        names = [f"x{k}" for k in range(40)]
        orders = [tuple(draw.sample(names, 40)) for _ in range(12)]
        for side in SIDES:
            for order in orders + [tuple(draw.sample(names, 40)) for _ in range(20)]:
                paper = together_paper(side, orders, order)
                self.assertEqual(paper[0] == "read", read_together(side, orders, order))
                self.assertIs(judge_together(side, orders, order, paper), True)


class TestNothingChanged(unittest.TestCase):
    def test_arguments_stay(self):
        orders, value = [F, G], ["read", [0, 1, 0, 0], ["a"]]
        with Untouched(self, orders, value):
            is_together("behind", orders, value)
            judge_together("ahead", orders, F, value)
            judge_together("ahead", orders, F, ("bars", "c", value))
            together_paper("ahead", orders, tuple("cabd"))
            count_together("behind", orders)
            together_at("ahead", orders, 3)
            together_number("behind", orders, G)

    def test_tuples_for_lists(self):
        for side in SIDES:
            self.assertEqual(count_together(side, (F, G)), 6)
            self.assertEqual(together_at(side, (F, G), 3), together_at(side, [F, G], 3))
            self.assertIs(together_at(side, (F, G), 3).__class__, tuple)
            self.assertEqual(together_number(side, (F, G), G), 5)
            self.assertEqual(together_paper(side, (F, G), F), together_paper(side, [F, G], F))
            self.assertIs(judge_together(side, (F, G), F, ("read", (0, 0, 0, 0))), True)


if __name__ == "__main__":
    unittest.main()
