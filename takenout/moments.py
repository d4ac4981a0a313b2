"""How a house is between two of its acts."""

from takenout.books import Book
from takenout.leastprices import least_price
from takenout.nails import nailed_price, nailed_script


class Moment:
    """A book, its present order, its goal and the tuple of the nailed names; it never changes."""

    def __init__(self, book, order, goal, nailed):
        self.book = book
        self.order = order
        self.goal = goal
        self.nailed = nailed


def owed_at(moment):
    """Return the least price from the present order to the goal without deeds of nailed items."""
    return nailed_price(moment.book, moment.order, moment.goal, moment.nailed)


def next_at(moment):
    """Return the first deed of a script to the goal that is cheapest and then shortest, or None."""
    if moment.order == moment.goal:
        return None
    return nailed_script(_counting(moment.book), moment.order, moment.goal, moment.nailed)[0]


def told_since(then, now):
    """Return which names came and went between two moments, and what the way costs for all others."""
    came = tuple([name for name in now.book.names() if not then.book.has_name(name)])
    went = tuple([name for name in then.book.names() if not now.book.has_name(name)])
    items = [item for item in now.book.all_items() if item[0] not in came]
    one = tuple([name for name in then.order if name not in went])
    other = tuple([name for name in now.order if name not in came])
    return (came, went, least_price(Book(now.book.side(), items, []), one, other))


def is_uncrossed(names, one, other):
    """Return whether names stand in one sequence in two orders."""
    return [name for name in one if name in names] == [name for name in other if name in names]


def _counting(book):
    """Return the book with prices by which of equally cheap scripts the shortest is cheapest."""
    many = len(book.names()) + 1
    return Book(book.side(), [(name, price * many + 1) for name, price in book.all_items()], book.sayings())
