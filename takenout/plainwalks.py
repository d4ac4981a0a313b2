"""Least prices of all orders of a small book, found by walking from order to order."""

from heapq import heappop, heappush

from takenout.orders import broken


def walk_prices(book, order):
    """Return the pairs of all orders of the book and their least prices from an order."""
    prices = _walked(book, order)
    numbers = {name: number for number, name in enumerate(book.names())}
    rows = sorted([([numbers[name] for name in one], one) for one in prices])
    return [(one, prices[one]) for _, one in rows]


def _walked(book, order):
    """Return the least price of each order that can be walked to, by the orders."""
    prices = {order: 0}
    queue = [(0, order)]
    opened = set()
    while queue:
        price, at = heappop(queue)
        for name in at:
            rest = tuple([other for other in at if other != name])
            # Orders come out of the queue by their prices: none later leads by this rest for less.
            if rest not in opened:
                opened.add(rest)
                dearer = price + book.price(name)
                for behind in _put_in(rest, name):
                    if dearer < prices.get(behind, dearer + 1) and broken(book, behind) is None:
                        prices[behind] = dearer
                        heappush(queue, (dearer, behind))
    return prices


def _put_in(rest, name):
    """Return the list of the orders of a rest with a name put in anywhere."""
    return [rest[:place] + (name,) + rest[place:] for place in range(len(rest) + 1)]
