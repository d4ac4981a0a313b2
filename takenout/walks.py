"""Walking from order to order, one item taken out and put in again at a time."""

from heapq import heappop, heappush


def least_walks(prices, order, is_let):
    """Return the least prices of all orders that can be walked to by let ones, by the orders.

    is_let tells of an order whether it is let.
    """
    least = {order: 0}
    queue = [(0, order)]
    opened = set()
    while queue:
        price, at = heappop(queue)
        for name in at:
            rest = tuple([other for other in at if other != name])
            # Orders come out of the queue by their prices: none later leads by this rest for less.
            if rest not in opened:
                opened.add(rest)
                dearer = price + prices[name]
                for behind in _put_in(rest, name):
                    if dearer < least.get(behind, dearer + 1) and is_let(behind):
                        least[behind] = dearer
                        heappush(queue, (dearer, behind))
    return least


def _put_in(rest, name):
    """Return the list of the orders of a rest with a name put in anywhere."""
    return [rest[:place] + (name,) + rest[place:] for place in range(len(rest) + 1)]
