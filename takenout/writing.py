"""Writing a text from its lexemes."""

BREAKERS = ("{", "}", ";")


def written(row):
    """Return the written text of a list of lexemes, of which the last one is a brace."""
    parts = []
    for k, lexeme in enumerate(row):
        parts.append(lexeme)
        if lexeme in BREAKERS:
            parts.append("\n")
        elif row[k + 1] != ";":
            parts.append(" ")
    return "".join(parts)
