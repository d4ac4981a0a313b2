"""Tables of the sequences in which three things may stand, and conditions with such tables."""

from takenout.orders import keeps_by

LETTERS = "xyz"
WORDS = ("xyz", "xzy", "yxz", "yzx", "zxy", "zyx")
SAYINGS = (
    ("x", ("y",)), ("x", ("z",)), ("x", ("y", "z")),
    ("y", ("x",)), ("y", ("z",)), ("y", ("x", "z")),
    ("z", ("x",)), ("z", ("y",)), ("z", ("x", "y")),
)


def is_table(value):
    """Return whether a value of any kind is a table."""
    return isinstance(value, tuple) and bool(value) and value == _as_table(value)


def all_tables():
    """Return the list of all tables, those with fewer words ahead."""
    tables = [()]
    for word in WORDS:
        tables = tables + [table + (word,) for table in tables]
    return [table for _, table in sorted([(len(table), table) for table in tables]) if table]


def renamed(table, word):
    """Return the table with the first, second and third letter of a word for x, y and z."""
    letters = dict(zip(LETTERS, word))
    return _as_table(["".join([letters[letter] for letter in old]) for old in table])


def keeps_condition(order, condition):
    """Return whether an order keeps a condition at three of its names."""
    table, three = condition
    letters = dict(zip(three, LETTERS))
    return "".join([letters[name] for name in order if name in letters]) in table


def kept_sayings(table, side):
    """Return the list of all sayings about x, y and z that all words of a table keep."""
    return [saying for saying in SAYINGS if all([keeps_by(side, word, saying) for word in table])]


def table_of(sayings, side):
    """Return the table of the words that keep all of some sayings, or None if there is none."""
    table = _as_table([
        word for word in WORDS if all([keeps_by(side, word, saying) for saying in sayings])
    ])
    return table if table else None


def is_side_table(table, side):
    """Return whether a table has just the words that keep some sayings of a side."""
    return table == table_of(kept_sayings(table, side), side)


def _as_table(words):
    """Return the words of a table that stand among others, in the sequence of a table."""
    return tuple([word for word in WORDS if word in words])
