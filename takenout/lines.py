"""The lines that a console reads."""

from takenout.parts import read_deed, read_place, read_priced, read_saying
from takenout.reading import Reader


def read_line(text):
    """Return what a line tells, as a tuple of its first word and the rest: of an act, the act."""
    reader = Reader(text)
    word = reader.take_one(list(FORMS))
    read = FORMS[word]
    rest = read(reader)
    reader.take(";")
    reader.take_end()
    return (word, *rest)


def _read_nothing(_):
    """Take nothing."""
    return ()


def _read_put(reader):
    """Take a deed."""
    return read_deed(reader)


def _read_price(reader):
    """Take an item and its price."""
    return read_priced(reader)


def _read_say(reader):
    """Take a saying."""
    return read_saying(reader)


def _read_name(reader):
    """Take a name."""
    return (reader.take_name(),)


def _read_goal(reader):
    """Take all names of an order."""
    return (reader.take_names(),)


def _read_come(reader):
    """Take a new item and its places in the present order and in the goal."""
    name, price = read_priced(reader)
    place = read_place(reader)
    reader.take("and")
    return (name, price, place, read_place(reader))


def _read_number(reader):
    """Take a number."""
    return (reader.take_number(),)


def _read_shown(reader):
    """Take which order is to be shown."""
    return (reader.take_one(("order", "goal")),)


FORMS = {
    "put": _read_put, "goal": _read_goal, "come": _read_come, "go": _read_name, "say": _read_say,
    "unsay": _read_number, "price": _read_price, "nail": _read_name, "free": _read_name,
    "undo": _read_nothing, "redo": _read_nothing, "mark": _read_name, "since": _read_name,
    "owed": _read_nothing, "account": _read_nothing, "show": _read_shown, "next": _read_nothing,
}
