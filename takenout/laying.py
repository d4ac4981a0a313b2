"""Laying items down, one after another, and stuck sets."""

from takenout.books import BEHIND
from takenout.errors import NoOrder
from takenout.kinds import is_listed
from takenout.orders import mirrored_order, wrong_member


def laid(book, names):
    """Return the laid items of a set of names."""
    return in_order(book, laid_row(book, names, []))


def any_order(book):
    """Return any order of the book; raise NoOrder with the greatest stuck set if there is none."""
    names = book.names()
    row = laid_row(book, names, [])
    if len(row) < len(names):
        raise NoOrder(others(book, row))
    return by_side(book, row)


def judge_stuck(book, value):
    """Return whether a value of any kind is a stuck set."""
    if not is_listed(value) or wrong_member(book, value) is not None or not value:
        return False
    return all_held(book, value, value)


def laid_row(book, names, first):
    """Return names laid first, and behind them what is laid within names, as it was laid."""
    needs = _needs(book)
    row = list(first)
    is_laid = {name: True for name in row}
    waiting = in_order(book, names)
    grown = True
    while grown:
        grown = False
        for name in waiting:
            if name not in is_laid and _can_be_laid(needs[name], is_laid):
                row.append(name)
                is_laid[name] = True
                grown = True
    return row


def by_side(book, row):
    """Return a row for the side behind as an order for the side of the book."""
    return tuple(row) if book.side() == BEHIND else mirrored_order(row)


def in_order(book, names):
    """Return the names of the items that stand among names, in the order of the items."""
    wanted = {name: True for name in names}
    return [name for name in book.names() if name in wanted]


def others(book, names):
    """Return the names of the items that do not stand among names, in the order of the items."""
    unwanted = {name: True for name in names}
    return [name for name in book.names() if name not in unwanted]


def all_held(book, names, within):
    """Return whether each of names has a saying all of whose some lie within other names."""
    inside = {name: True for name in within}
    held = {name: True for name, some in book.sayings() if all([other in inside for other in some])}
    return all([name in held for name in names])


def _needs(book):
    """Return the list of what the sayings about each item have, by the names of the items."""
    needs = {name: [] for name in book.names()}
    for name, some in book.sayings():
        needs[name].append(some)
    return needs


def _can_be_laid(needs, is_laid):
    """Return whether each of the needs has a name that is laid already."""
    return all([any([other in is_laid for other in some]) for some in needs])
