"""Breaks of stocks: books of conditions in which a way is dearer than a dearest row tells."""

from itertools import permutations

from takenout.books import AHEAD, BEHIND, Book
from takenout.errors import BadBook
from takenout.kinds import is_pair
from takenout.leastprices import least_price
from takenout.orders import is_order, wrong_member
from takenout.stocks import is_never_dearer
from takenout.tables import is_side_table, keeps_condition
from takenout.walks import least_walks

FIRST_THREE = ("a", "b", "c")
MOST_ITEMS = 4
MOST_CONDITIONS = 2


def find_break(stock):
    """Return a break of a stock, or None if it is never dearer."""
    if is_never_dearer(stock):
        return None
    # Of any two such tables, which may be one, there is a break with prices such as _priced tells.
    first = [table for table in stock if not is_side_table(table, BEHIND)][0]
    second = [table for table in stock if not is_side_table(table, AHEAD)][0]
    for names in ("abc", "abcd"):
        for three in permutations(names, 3):
            conditions = ((first, FIRST_THREE), (second, three))
            for items in _priced(names):
                ends = _dearer_ends(items, conditions)
                if ends is not None:
                    return (items, conditions, *ends)
    return None


def judge_break(stock, value):
    """Return whether a value of any kind is a break of a stock, by walks over all orders."""
    if not isinstance(value, tuple) or len(value) != 4:
        return False
    items, conditions, one, other = value
    book = _book_of(items)
    if book is None or not _are_conditions(stock, book, conditions):
        return False
    if not all([_is_kept(book, conditions, order) for order in (one, other)]):
        return False
    return walked_price(items, conditions, one, other) != least_price(book, one, other)


def let_orders(items, conditions):
    """Return the list of the orders of the names of items that keep conditions, ascending."""
    names = [item[0] for item in items]
    return [order for order in permutations(names) if _keeps_all(order, conditions)]


def walked_price(items, conditions, one, other):
    """Return the least price from one let order to another by let orders, or None."""
    return _walks(items, conditions, one).get(other)


def _priced(names):
    """Return the tuples of items with some names that all cost 1, and those of which one costs 3."""
    dear = ["", *names]
    return [tuple([(name, 3 if name == other else 1) for name in names]) for other in dear]


def _dearer_ends(items, conditions):
    """Return a pair of let orders with a way between them that is dearer, or no way, or None."""
    book = Book(BEHIND, items, [])
    orders = let_orders(items, conditions)
    for one in orders:
        prices = _walks(items, conditions, one)
        for other in orders:
            if prices.get(other) != least_price(book, one, other):
                return (one, other)
    return None


def _walks(items, conditions, order):
    """Return the least prices of the let orders that can be walked to from one, by the orders."""
    return least_walks(dict(items), order, lambda behind: _keeps_all(behind, conditions))


def _keeps_all(order, conditions):
    """Return whether an order keeps all conditions."""
    return all([keeps_condition(order, condition) for condition in conditions])


def _book_of(items):
    """Return the book without sayings of what should be the items of a break, or None."""
    if not isinstance(items, tuple) or len(items) > MOST_ITEMS:
        return None
    try:
        return Book(BEHIND, items, [])
    except BadBook:
        return None


def _are_conditions(stock, book, value):
    """Return whether a value of any kind is a tuple of conditions of a stock, as a break has them."""
    if not isinstance(value, tuple) or len(value) > MOST_CONDITIONS:
        return False
    return all([is_pair(pair) and pair[0] in stock and _is_three(book, pair[1]) for pair in value])


def _is_three(book, value):
    """Return whether a value of any kind is a tuple of three different names of a book."""
    return isinstance(value, tuple) and len(value) == 3 and wrong_member(book, value) is None


def _is_kept(book, conditions, value):
    """Return whether a value of any kind is an order of the names, as a tuple, with the conditions kept."""
    return isinstance(value, tuple) and is_order(book, value) and _keeps_all(value, conditions)
