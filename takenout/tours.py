"""Tours along several orders of a book, on which a row of all of them stands still."""

from takenout.nails import nailed_price, nailed_script
from takenout.rows import dearest_row


def still_row(book, orders):
    """Return a dearest row of all the orders."""
    return dearest_row(book, orders)


def tour_price(book, orders, row):
    """Return the least price of a tour along the orders without deeds of the items of a row."""
    return sum([nailed_price(book, one, other, row) for one, other in zip(orders, orders[1:])])


def tour(book, orders, row):
    """Return a tour with this price, as a list of scripts."""
    return [nailed_script(book, one, other, row) for one, other in zip(orders, orders[1:])]
