"""Least prices and scripts that leave nailed items standing."""

from takenout.errors import Crossed
from takenout.orders import places_of
from takenout.rows import dearest_price, dearest_with, row_price
from takenout.rowscripts import row_script
from takenout.thresholds import through


def nailed_price(book, one, other, names):
    """Return the least price of a script without deeds of nailed items."""
    return book.total() - row_price(book, _standing_row(book, one, other, names))


def nailed_script(book, one, other, names):
    """Return a script with this price, with at most one deed of each item."""
    return row_script(book, one, other, _standing_row(book, one, other, names))


def kept_cost(book, one, other, name):
    """Return by how much the least price grows if an item is nailed."""
    orders = [one, other]
    return dearest_price(book, orders) - through(book, orders, name)


def _standing_row(book, one, other, names):
    """Return a dearest row with all nailed names; raise Crossed if they are in none."""
    return dearest_with(book, [one, other], _nailed_row(one, other, names))


def _nailed_row(one, other, names):
    """Return the row of the nailed names; raise Crossed if they stand in two sequences."""
    row = [name for name in one if name in names]
    places = places_of(other)
    # Where any two are crossed, some two neighbours are.
    for first, second in zip(row, row[1:]):
        if places[first] > places[second]:
            raise Crossed(first, second)
    return tuple(row)
