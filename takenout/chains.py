"""What stands ahead in all of some orders, and dearest rows found name by name."""

from takenout.orders import mirrored_order, places_of


def names_ahead(orders):
    """Return the lists of the names that stand ahead of each name in all orders, by the names.

    The names are in the sequence of the first order, so that each comes behind all ahead of it.
    """
    first = orders[0]
    others = [places_of(order) for order in orders[1:]]
    ahead = {}
    for k, name in enumerate(first):
        row = list(first[:k])
        for places in others:
            row = [other for other in row if places[other] < places[name]]
        ahead[name] = row
    return ahead


def best_ends(prices, ahead, names):
    """Return the greatest price of a row of some names that ends with each of them, by the names.

    The names are passed in the sequence of ahead, as names_ahead returns it.
    """
    best = {}
    for name in names:
        best[name] = prices[name] + max([best[other] for other in ahead[name] if other in best], default=0)
    return best


def row_ends(book, orders):
    """Return the greatest price of a row of the orders that ends with each name, by the names."""
    ahead = names_ahead(orders)
    return best_ends(dict(book.all_items()), ahead, list(ahead))


def row_begins(book, orders):
    """Return the greatest price of a row of the orders that begins with each name, by the names."""
    return row_ends(book, [mirrored_order(order) for order in orders])


def best_price(prices, ahead, names):
    """Return the price of a dearest row of some names, passed as for best_ends."""
    return max(best_ends(prices, ahead, names).values(), default=0)


def best_row(prices, ahead, names):
    """Return a dearest row of some names, passed as for best_ends.

    It has each name with which all others stand in one sequence, also one of the price 0.
    """
    best = best_ends(prices, ahead, names)
    left = max(best.values(), default=0)
    row = []
    for name in reversed(names):
        # What is left is the greatest price of a row that ends ahead of the last name taken.
        if best[name] == left and (not row or name in ahead[row[-1]]):
            row.append(name)
            left -= prices[name]
    return tuple(reversed(row))


def fits(ahead, name, row):
    """Return whether a name is one of a row, or stands in one sequence with all its names."""
    return all([name == other or name in ahead[other] or other in ahead[name] for other in row])
