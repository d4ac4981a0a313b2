"""Texts of scripts."""

from takenout.parts import deed_words, read_deed
from takenout.reading import Reader
from takenout.writing import written


def script_text(script):
    """Return the written text of a list of deeds."""
    row = ["script", "{"]
    for deed in script:
        row.extend(deed_words(deed) + [";"])
    row.append("}")
    return written(row)


def read_script(text):
    """Return the list of the deeds of a text, in which one word may stand twice."""
    reader = Reader(text)
    reader.take("script")
    reader.take("{")
    script = []
    while reader.sees("put"):
        reader.take("put")
        script.append(read_deed(reader))
        reader.take(";")
    reader.take("}")
    reader.take_end()
    return script
