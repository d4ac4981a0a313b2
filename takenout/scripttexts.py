"""Texts of scripts."""

from takenout.reading import Reader
from takenout.writing import written


def script_text(script):
    """Return the written text of a list of deeds."""
    row = ["script", "{"]
    for name, place in script:
        row.extend(["put", name])
        row.extend(["first"] if place is None else ["behind", place])
        row.append(";")
    row.append("}")
    return written(row)


def read_script(text):
    """Return the list of the deeds of a text, in which one word may stand twice."""
    reader = Reader(text)
    reader.take("script")
    reader.take("{")
    script = []
    while reader.sees("put"):
        script.append(_read_deed(reader))
    reader.take("}")
    reader.take_end()
    return script


def _read_deed(reader):
    """Take a deed and return it."""
    reader.take("put")
    name = reader.take_name()
    place = _read_place(reader)
    reader.take(";")
    return (name, place)


def _read_place(reader):
    """Take the place of a deed and return it: None, or a name."""
    if reader.sees("first"):
        reader.take("first")
        return None
    reader.take("behind")
    return reader.take_name()
