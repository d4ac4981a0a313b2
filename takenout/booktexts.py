"""Texts of books and of orders."""

from takenout.books import AHEAD, BEHIND, Book
from takenout.parts import read_priced, read_saying
from takenout.reading import Reader
from takenout.writing import written


def book_text(book):
    """Return the written text of a book."""
    row = ["book", book.side(), "{"]
    for name, price in book.all_items():
        row.extend(["item", name, "costs", str(price), ";"])
    for name, some in book.sayings():
        row.extend(["saying", name, "needs", *some, ";"])
    row.append("}")
    return written(row)


def order_text(order):
    """Return the written text of an order."""
    return written(["order", "{", *order, "}"])


def read_book(text):
    """Return the book of a text."""
    reader = Reader(text)
    reader.take("book")
    side = reader.take_one((BEHIND, AHEAD))
    reader.take("{")
    items = []
    while reader.sees("item"):
        reader.take("item")
        items.append(read_priced(reader))
        reader.take(";")
    sayings = []
    while reader.sees("saying"):
        reader.take("saying")
        sayings.append(read_saying(reader))
        reader.take(";")
    reader.take("}")
    reader.take_end()
    return Book(side, items, sayings)


def read_order(text):
    """Return the words of the text of an order, of which one may stand there twice."""
    reader = Reader(text)
    reader.take("order")
    reader.take("{")
    order = reader.take_names()
    reader.take("}")
    reader.take_end()
    return order
