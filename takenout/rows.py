"""Rows that stand in all of some orders, and dearest ones."""

from takenout.chains import best_row, fits, names_ahead


def is_row(book, orders, value):
    """Return whether a value of any kind is a row of the orders, which have the names of the book."""
    return isinstance(value, tuple) and all([_stands_in(order, value) for order in orders])


def row_price(book, row):
    """Return the sum of the prices of different names."""
    return sum([book.price(name) for name in row])


def dearest_row(book, orders):
    """Return a dearest row of the orders."""
    return dearest_with(book, orders, ())


def dearest_price(book, orders):
    """Return the price of a dearest row of the orders."""
    return row_price(book, dearest_row(book, orders))


def dearest_with(book, orders, row):
    """Return a row of the orders that is dearest among those that have all names of a row."""
    ahead = names_ahead(orders)
    fitting = [name for name in ahead if fits(ahead, name, row)]
    # All that fit stand in one sequence with each name of row, so best_row takes these names, too.
    return best_row(dict(book.all_items()), ahead, fitting)


def _stands_in(order, values):
    """Return whether a tuple has names of an order alone, in their sequence there."""
    return tuple([name for name in order if name in values]) == values
