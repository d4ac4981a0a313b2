"""Least prices from one order of a book to another, cheapest scripts, and papers that show them."""

from takenout.deeds import led, script_price
from takenout.errors import BadScript
from takenout.kinds import is_listed, is_pair
from takenout.rows import dearest_price, dearest_row
from takenout.rowscripts import row_script
from takenout.times import judge_times, times


def least_price(book, one, other):
    """Return the least price of a script that leads from one order to the other."""
    return book.total() - dearest_price(book, [one, other])


def cheapest_script(book, one, other):
    """Return a script with the least price, with at most one deed of each item."""
    return row_script(book, one, other, dearest_row(book, [one, other]))


def price_paper(book, one, other):
    """Return a cheapest script, and times that show that none is cheaper."""
    return (cheapest_script(book, one, other), times(book, [one, other]))


def judge_price(book, one, other, value):
    """Return None if a value of any kind is a price paper, or else what is wrong with it first."""
    if not is_pair(value) or not all([is_listed(member) for member in value]):
        return ("form",)
    script, told = value
    try:
        end = led(book, one, script)
    except BadScript as error:
        return ("script", error.number)
    if end != other:
        return ("end",)
    span = judge_times(book, [one, other], told)
    if span is None:
        return ("times",)
    if script_price(book, script) + span != book.total():
        return ("dearer",)
    return None
