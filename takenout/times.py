"""Times, whose span no row of some orders exceeds."""

from takenout.chains import best_ends, names_ahead
from takenout.kinds import is_listed
from takenout.words import is_number


def times(book, orders):
    """Return times for the orders whose span is the price of a dearest row."""
    ahead = names_ahead(orders)
    best = best_ends(dict(book.all_items()), ahead, list(ahead))
    return [best[name] - price for name, price in book.all_items()]


def judge_times(book, orders, value):
    """Return the span of a value of any kind if it is times for the orders, or None."""
    names = book.names()
    if not is_listed(value) or len(value) != len(names) or not all([is_number(time) for time in value]):
        return None
    begins = {name: time for name, time in zip(names, value)}
    ends = {name: time + book.price(name) for name, time in zip(names, value)}
    for name, row in names_ahead(orders).items():
        if any([begins[name] < ends[other] for other in row]):
            return None
    return max(ends.values(), default=0)
