"""Dearest rows counted and numbered name by name, without being listed."""

from takenout.chains import best_ends, names_ahead
from takenout.errors import TooGreat
from takenout.orders import mirrored_order


def count_rows(book, orders):
    """Return how many dearest rows the orders have."""
    return DearestRows(book, orders).count_all()


def row_at(book, orders, number):
    """Return the dearest row with a number."""
    rows = DearestRows(book, orders)
    if number >= rows.count_all():
        raise TooGreat()
    return rows.row_with(number)


def row_number(book, orders, row):
    """Return the number of a dearest row."""
    return DearestRows(book, orders).number_of(row)


def drawn_row(book, orders, number):
    """Return the dearest row whose number is the remainder of any number."""
    rows = DearestRows(book, orders)
    return rows.row_with(number % rows.count_all())


def count_with(book, orders, name):
    """Return how many dearest rows have a name."""
    prices = dict(book.all_items())
    ends, ways_ahead = _ends(prices, names_ahead(orders))
    begins, ways_behind = _ends(prices, names_ahead(_mirrored(orders)))
    if ends[name] + begins[name] - prices[name] < max(ends.values()):
        return 0
    return ways_ahead[name] * ways_behind[name]


class DearestRows:
    """The dearest rows of some orders, counted by the names with which they go on."""

    def __init__(self, book, orders):
        self._prices = dict(book.all_items())
        behind = names_ahead(_mirrored(orders))
        self._first = orders[0]
        self._behind = {name: row[::-1] for name, row in behind.items()}
        self._best, self._ways = _ends(self._prices, behind)
        self._dearest = max(self._best.values(), default=0)

    def count_all(self):
        """Return how many dearest rows there are."""
        return _ways_on(self._dearest, self._first, self._best, self._ways)

    def row_with(self, number):
        """Return the dearest row with a number, which is less than how many there are."""
        row = []
        left = self._dearest
        names = self._first
        # A row that ends here comes ahead of all that go on.
        while left > 0 or number > 0:
            if left == 0:
                number -= 1
            name, number = self._next_name(names, left, number)
            row.append(name)
            left -= self._prices[name]
            names = self._behind[name]
        return tuple(row)

    def number_of(self, row):
        """Return the number of a dearest row."""
        number = 0
        left = self._dearest
        names = self._first
        for name in row:
            ahead = names[:names.index(name)]
            # Those that go on with a name ahead come ahead of it, and so does one that ends here.
            number += _ways_on(left, ahead, self._best, self._ways)
            left -= self._prices[name]
            names = self._behind[name]
        return number

    def _next_name(self, names, left, number):
        """Return with which of the names a row with a price left goes on, and its number there."""
        fitting = [name for name in names if self._best[name] == left]
        at = 0
        while number >= self._ways[fitting[at]]:
            number -= self._ways[fitting[at]]
            at += 1
        return fitting[at], number


def _mirrored(orders):
    """Return the mirrored orders."""
    return [mirrored_order(order) for order in orders]


def _ends(prices, ahead):
    """Return the greatest prices of rows that end with each name, and how many have them."""
    best = best_ends(prices, ahead, list(ahead))
    ways = {}
    for name in ahead:
        ways[name] = _ways_on(best[name] - prices[name], ahead[name], best, ways)
    return best, ways


def _ways_on(left, names, best, ways):
    """Return in how many ways a row can go on by one of the names for just a price, or end."""
    return sum([ways[name] for name in names if best[name] == left]) + (1 if left == 0 else 0)
