"""Least prices of all orders of a small book, found by walking from order to order."""

from takenout.orders import broken
from takenout.walks import least_walks


def walk_prices(book, order):
    """Return the pairs of all orders of the book and their least prices from an order."""
    prices = least_walks(dict(book.all_items()), order, lambda behind: broken(book, behind) is None)
    numbers = {name: number for number, name in enumerate(book.names())}
    rows = sorted([([numbers[name] for name in one], one) for one in prices])
    return [(one, prices[one]) for _, one in rows]
