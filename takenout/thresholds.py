"""At which price a name stands in a dearest row."""

from takenout.chains import best_price, fits, names_ahead

IN_ALL = "all"
IN_SOME = "some"
IN_NONE = "none"


def through(book, orders, name):
    """Return the greatest price of a row that has a name."""
    return _price_through(dict(book.all_items()), names_ahead(orders), name)


def without(book, orders, name):
    """Return the greatest price of a row that has a name not."""
    return _price_without(dict(book.all_items()), names_ahead(orders), name)


def threshold(book, orders, name):
    """Return the price from which on a name stands in a dearest row."""
    return _threshold(dict(book.all_items()), names_ahead(orders), name)


def standing(book, orders):
    """Return for each item whether it is in all dearest rows, in some, or in none."""
    prices = dict(book.all_items())
    ahead = names_ahead(orders)
    return [_standing_word(price, _threshold(prices, ahead, name)) for name, price in book.all_items()]


def _price_through(prices, ahead, name):
    """Return the greatest price of a row that has a name."""
    # A row of what fits the name may lack it, but then it can have it, too, and is no cheaper.
    return best_price(prices, ahead, [other for other in ahead if fits(ahead, other, (name,))])


def _price_without(prices, ahead, name):
    """Return the greatest price of a row that has a name not."""
    return best_price(prices, ahead, [other for other in ahead if other != name])


def _threshold(prices, ahead, name):
    """Return the price from which on a name stands in a dearest row."""
    return _price_without(prices, ahead, name) - _price_through(prices, ahead, name) + prices[name]


def _standing_word(price, least):
    """Return the word for an item with a price and a threshold."""
    if price > least:
        return IN_ALL
    return IN_SOME if price == least else IN_NONE
