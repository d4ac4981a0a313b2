"""Tables of three, conditions, kept sayings and tables of a side (S6.1, S6.2, S6.5)."""

import itertools
import unittest

from samples import ODD, Untouched, kept
from takenout.tables import (
    all_tables, is_side_table, is_table, keeps_condition, kept_sayings, renamed, table_of,
)

WORDS = ("xyz", "xzy", "yxz", "yzx", "zxy", "zyx")
RING = ("xyz", "yxz", "yzx", "zyx", "zxy", "xzy")
SIDES = ("behind", "ahead")
X_NOT_LAST = ("xyz", "xzy", "yxz", "zxy")
Y_NOT_FIRST = ("xyz", "xzy", "zxy", "zyx")
X_AHEAD_OF_Z = ("xyz", "xzy", "yxz")
# In the sequence that the interface tells.
SAYINGS = [
    ("x", ("y",)), ("x", ("z",)), ("x", ("y", "z")),
    ("y", ("x",)), ("y", ("z",)), ("y", ("x", "z")),
    ("z", ("x",)), ("z", ("y",)), ("z", ("x", "y")),
]


def tables_of_sets():
    """All tables, as sets of words in the sequence of S6.1."""
    return [
        tuple(word for k, word in enumerate(WORDS) if bits >> k & 1) for bits in range(1, 64)
    ]


def words_that_keep(sayings, side):
    """The words of the orders that keep sayings with a side."""
    return tuple(word for word in WORDS if all(kept(side, word, saying) for saying in sayings))


def side_tables(side):
    """All tables of a side, by all sets of sayings about x, y and z."""
    return {
        words_that_keep([saying for k, saying in enumerate(SAYINGS) if bits >> k & 1], side)
        for bits in range(512)
    } - {()}


class TestIsTable(unittest.TestCase):
    def test_all_lists_of_words(self):
        tables = tables_of_sets()
        for size in range(4):
            for value in itertools.product(WORDS, repeat=size):
                self.assertIs(is_table(value), value in tables, value)
        for value in itertools.permutations(WORDS):
            self.assertIs(is_table(value), value == WORDS)

    def test_each_table(self):
        for table in tables_of_sets():
            self.assertIs(is_table(table), True)
            self.assertIs(is_table(list(table)), False)
            self.assertIs(is_table(table + table[-1:]), False)
            self.assertIs(is_table(table[:1] + table), False)

    def test_values_of_any_kind(self):
        for value in ODD + (
            "xyz", ("xy",), ("xyz", "xyy"), ("XYZ",), ("abc",), ("xyz", None), ("xyz", 1), (None, "xyz"),
            ("xyz", ("xzy",)), (("xyz",),), (("x", "y", "z"),), {"xyz": 1}, ("xyz ",), ("", "xyz"),
            ("xyz", True), (["xyz"],), ("xyz", "zyxx"), 5,
        ):
            self.assertIs(is_table(value), False, repr(value))


class TestAllTables(unittest.TestCase):
    def test_in_their_order(self):
        expected = sorted(tables_of_sets(), key=lambda table: (len(table), table))
        self.assertEqual(all_tables(), expected)
        self.assertEqual(len(all_tables()), 63)
        self.assertEqual(all_tables()[0], ("xyz",))
        self.assertEqual(all_tables()[6:8], [("xyz", "xzy"), ("xyz", "yxz")])
        self.assertEqual(all_tables()[-1], WORDS)

    def test_new_each_time(self):
        first = all_tables()
        first.clear()
        self.assertEqual(len(all_tables()), 63)
        for table in all_tables():
            self.assertIs(table.__class__, tuple)


class TestRenamed(unittest.TestCase):
    def test_told(self):
        self.assertEqual(renamed(("xzy",), "yzx"), ("yxz",))
        self.assertEqual(renamed(("xyz",), "zxy"), ("zxy",))
        self.assertEqual(renamed(("xyz", "zyx"), "yxz"), ("yxz", "zxy"))
        self.assertEqual(renamed(X_NOT_LAST, "zxy"), ("xzy", "yzx", "zxy", "zyx"))

    def test_each_table_with_each_word(self):
        for table, word in itertools.product(tables_of_sets(), WORDS):
            expected = sorted(
                old.replace("x", "X").replace("y", "Y").replace("z", "Z")
                .replace("X", word[0]).replace("Y", word[1]).replace("Z", word[2])
                for old in table
            )
            self.assertEqual(renamed(table, word), tuple(expected))
            self.assertIs(is_table(renamed(table, word)), True)

    def test_no_change(self):
        for table in tables_of_sets():
            self.assertEqual(renamed(table, "xyz"), table)
            self.assertEqual(renamed(WORDS, table[0]), WORDS)


class TestKeepsCondition(unittest.TestCase):
    def test_told(self):
        condition = (("yzx",), ("a", "b", "c"))
        for order in itertools.permutations("abcd"):
            expected = order.index("b") < order.index("c") < order.index("a")
            self.assertIs(keeps_condition(order, condition), expected)

    def test_any_three_in_any_sequence(self):
        for order in itertools.permutations("abcde"):
            for three in (("a", "b", "c"), ("e", "a", "d"), ("d", "c", "b")):
                for table in (("xyz",), ("yxz", "zxy"), X_NOT_LAST, ("xyz", "zyx"), WORDS):
                    expected = any(
                        order.index(three["xyz".index(word[0])])
                        < order.index(three["xyz".index(word[1])])
                        < order.index(three["xyz".index(word[2])])
                        for word in table
                    )
                    self.assertIs(keeps_condition(order, (table, three)), expected)

    def test_names_that_are_letters_of_tables(self):
        self.assertIs(keeps_condition(("x", "y", "z"), (("zxy",), ("y", "z", "x"))), True)
        self.assertIs(keeps_condition(("x", "y", "z"), (("yzx",), ("y", "z", "x"))), False)

    def test_sixteen_names(self):
        order = tuple(f"x{k}" for k in range(16))
        self.assertIs(keeps_condition(order, (("zxy",), ("x5", "x15", "x1"))), True)
        self.assertIs(keeps_condition(order, (("xyz", "yxz", "zyx"), ("x5", "x15", "x1"))), False)


class TestKeptSayings(unittest.TestCase):
    def test_told(self):
        self.assertEqual(kept_sayings(("xyz",), "behind"), [
            ("y", ("x",)), ("y", ("x", "z")), ("z", ("x",)), ("z", ("y",)), ("z", ("x", "y")),
        ])
        self.assertEqual(kept_sayings(("xyz",), "ahead"), [
            ("x", ("y",)), ("x", ("z",)), ("x", ("y", "z")), ("y", ("z",)), ("y", ("x", "z")),
        ])
        self.assertEqual(kept_sayings(X_NOT_LAST, "ahead"), [("x", ("y", "z"))])
        self.assertEqual(kept_sayings(X_NOT_LAST, "behind"), [])
        self.assertEqual(kept_sayings(X_AHEAD_OF_Z, "behind"), [("z", ("x",)), ("z", ("x", "y"))])
        for side in SIDES:
            self.assertEqual(kept_sayings(WORDS, side), [])
            self.assertEqual(kept_sayings(("xyz", "yzx", "zxy"), side), [])

    def test_all_tables_on_both_sides(self):
        for table, side in itertools.product(tables_of_sets(), SIDES):
            expected = [
                saying for saying in SAYINGS if all(kept(side, word, saying) for word in table)
            ]
            self.assertEqual(kept_sayings(table, side), expected)


class TestTableOf(unittest.TestCase):
    def test_all_sets_of_sayings(self):
        for side in SIDES:
            for bits in range(512):
                sayings = [saying for k, saying in enumerate(SAYINGS) if bits >> k & 1]
                expected = words_that_keep(sayings, side) or None
                self.assertEqual(table_of(sayings, side), expected)
                turned = tuple((name, some[::-1]) for name, some in sayings[::-1])
                self.assertEqual(table_of(turned, side), expected)

    def test_all_kept_sayings(self):
        for table, side in itertools.product(tables_of_sets(), SIDES):
            told = table_of(kept_sayings(table, side), side)
            self.assertLessEqual(set(table), set(told))
            self.assertIs(told.__class__, tuple)
            self.assertIs(is_table(told), True)

    def test_edges(self):
        for side in SIDES:
            self.assertEqual(table_of([], side), WORDS)
            self.assertIsNone(table_of([("x", ("y",)), ("y", ("x",))], side))
            self.assertIsNone(table_of([("x", ("z", "y")), ("y", ("x", "z")), ("z", ("y", "x"))], side))
            self.assertEqual(table_of([("x", ("y",))] * 3, side), table_of([("x", ("y",))], side))
        self.assertEqual(table_of([("x", ("z", "y"))], "ahead"), X_NOT_LAST)
        self.assertEqual(table_of([("y", ("z", "x"))], "behind"), Y_NOT_FIRST)


class TestSideTables(unittest.TestCase):
    def test_how_many(self):
        behind = [table for table in all_tables() if is_side_table(table, "behind")]
        ahead = [table for table in all_tables() if is_side_table(table, "ahead")]
        both = [table for table in behind if table in ahead]
        self.assertEqual((len(behind), len(ahead), len(both)), (22, 22, 19))

    def test_by_all_sets_of_sayings(self):
        for side in SIDES:
            tables = side_tables(side)
            for table in all_tables():
                self.assertIs(is_side_table(table, side), table in tables)

    def test_stretches_of_the_ring(self):
        stretches = {
            tuple(sorted(RING[(start + k) % 6] for k in range(many)))
            for start in range(6) for many in (1, 2, 3, 4, 6)
        }
        for table in all_tables():
            of_some_side = is_side_table(table, "behind") or is_side_table(table, "ahead")
            self.assertIs(of_some_side, table in stretches, table)

    def test_stretches_of_four(self):
        for letter in "xyz":
            never_first = tuple(word for word in WORDS if word[0] != letter)
            never_last = tuple(word for word in WORDS if word[2] != letter)
            self.assertIs(is_side_table(never_first, "behind"), True)
            self.assertIs(is_side_table(never_first, "ahead"), False)
            self.assertIs(is_side_table(never_last, "behind"), False)
            self.assertIs(is_side_table(never_last, "ahead"), True)

    def test_examples(self):
        self.assertIs(is_side_table(X_NOT_LAST, "ahead"), True)
        self.assertIs(is_side_table(X_NOT_LAST, "behind"), False)
        for table in (("xyz", "zyx"), ("xyz", "yzx", "zxy")):
            for side in SIDES:
                self.assertIs(is_side_table(table, side), False)
        self.assertIs(is_side_table(Y_NOT_FIRST, "behind"), True)
        self.assertIs(is_side_table(X_AHEAD_OF_Z, "behind"), True)
        self.assertIs(is_side_table(WORDS, "behind"), True)
        self.assertIs(is_side_table(WORDS, "ahead"), True)


class TestNothingChanged(unittest.TestCase):
    def test_arguments_stay(self):
        sayings, value = [("x", ("z", "y")), ("y", ("x",))], ["xyz", ["xzy"]]
        with Untouched(self, sayings, value):
            table_of(sayings, "behind")
            is_table(value)
            is_table((value, value))

    def test_new_each_time(self):
        first = kept_sayings(("xyz",), "behind")
        again = list(first)
        first.clear()
        self.assertEqual(kept_sayings(("xyz",), "behind"), again)


if __name__ == "__main__":
    unittest.main()
