"""Texts of stores: one row for each forest."""

from findforests.errors import ParseError
from findforests.store import MAX_FORESTS, is_name, store_of
from findforests.syntax import format_forest, parse_forest


def format_row(name, forest):
    """Returns the row of a forest, without its line feed."""
    words = ["forest", name]
    if forest:
        words.append(format_forest(forest))
    return " ".join(words)


def format_store(store):
    """Returns the text of a store."""
    return "".join([format_row(name, store.forest_of(name)) + "\n" for name in store.names()])


def parse_row(row, pos):
    """Returns the name and the forest of the row at this index. Raises ParseError with the index."""
    words = row.split(" ")
    if len(words) < 2 or not is_name(words[1]):
        raise ParseError(pos)
    try:
        forest = parse_forest(" ".join(words[2:]))
    except ParseError:
        raise ParseError(pos) from None
    # The words do not tell another first word, or a space behind the name, from what is written.
    if format_row(words[1], forest) != row:
        raise ParseError(pos)
    return words[1], forest


def parse_store(text):
    """Returns the store of a text, without steps, total cost and watches. Raises ParseError with the index of a row."""
    *rows, last = text.split("\n")
    forests = {}
    before = ""
    for pos, row in enumerate(rows):
        name, forest = parse_row(row, pos)
        if name <= before or pos >= MAX_FORESTS:
            raise ParseError(pos)
        forests[name] = forest
        before = name
    # Something behind the last line feed is a row without one.
    if last:
        raise ParseError(len(rows))
    return store_of(forests)
