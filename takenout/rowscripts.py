"""Scripts that leave a row standing and take out each other item just once."""

from takenout.books import BEHIND
from takenout.deeds import moved, name_ahead
from takenout.orders import mirrored_order


def row_script(book, one, other, row):
    """Return a script that has no deed of an item of a row, and just one of each other item."""
    if book.side() == BEHIND:
        steps = _steps(one, other, row)
    else:
        turned = _steps(mirrored_order(one), mirrored_order(other), mirrored_order(row))
        steps = [(name, mirrored_order(order)) for name, order in turned]
    return [(name, name_ahead(order, name)) for name, order in steps]


def _steps(one, other, row):
    """Return the names to take, each with the order behind its deed, for the side behind."""
    settled = {name: True for name in row}
    steps = []
    at = one
    for name in _in_turn(one, other, row):
        # Taken names stand at the front of their gap, so this one goes right behind what is settled.
        ahead = [known for known in other[:other.index(name)] if known in settled]
        at = moved(at, (name, ahead[-1] if ahead else None))
        settled[name] = True
        steps.append((name, at))
    return steps


def _in_turn(one, other, row):
    """Return the names that are not in a row: those that go forward, then those that go back."""
    old_gaps = _gaps(one, row)
    new_gaps = _gaps(other, row)
    forward = [name for name in other if name in new_gaps and new_gaps[name] <= old_gaps[name]]
    back = [name for name in one if name in new_gaps and new_gaps[name] > old_gaps[name]]
    return forward + back[::-1]


def _gaps(order, row):
    """Return how many items of a row stand ahead of each other item, by the names."""
    gaps = {}
    count = 0
    for name in order:
        if name in row:
            count += 1
        else:
            gaps[name] = count
    return gaps
