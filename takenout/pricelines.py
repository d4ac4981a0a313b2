"""The least price as it hangs on the price of one item."""

from takenout.thresholds import threshold, without


def price_line(book, one, other, name):
    """Return the least price if an item cost nothing, and the price from which on it stays."""
    orders = [one, other]
    least = book.total() - book.price(name) - without(book, orders, name)
    return (least, threshold(book, orders, name))


def least_at(book, one, other, name, price):
    """Return the least price if an item had another price."""
    least, turn = price_line(book, one, other, name)
    return least + min(price, turn)
