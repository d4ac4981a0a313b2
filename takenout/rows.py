"""Rows that stand in all of some orders, and dearest ones."""

from takenout.chains import best_row, fits, names_ahead
from takenout.orders import wrong_member


def is_row(book, orders, value):
    """Return whether a value of any kind is a row of the orders."""
    if not isinstance(value, tuple) or wrong_member(book, value) is not None:
        return False
    return all([_stands_in(order, value) for order in orders])


def row_price(book, row):
    """Return the sum of the prices of different names."""
    return sum([book.price(name) for name in row])


def dearest_row(book, orders):
    """Return a dearest row of the orders."""
    return dearest_with(book, orders, ())


def dearest_price(book, orders):
    """Return the price of a dearest row of the orders."""
    return row_price(book, dearest_row(book, orders))


def dearest_with(book, orders, row):
    """Return a row of the orders that is dearest among those that have all names of a row."""
    prices = dict(book.all_items())
    ahead = names_ahead(orders)
    fitting = [name for name in ahead if fits(ahead, name, row)]
    found = best_row(prices, ahead, fitting)
    # Names of row that cost nothing may be lacking; what fits row stands in one sequence with them.
    return tuple([name for name in orders[0] if name in found or name in row])


def _stands_in(order, row):
    """Return whether names stand in their sequence in an order."""
    return tuple([name for name in order if name in row]) == row
