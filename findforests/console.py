"""Consoles: lines with commands and questions, and their answers."""

from findforests.errors import EmptyHistory, ForestError, Missing, ParseError
from findforests.forests import depth_of, root_of
from findforests.store import Store
from findforests.syntax import format_forest, parse_forest, parse_history, parse_integer

# The numbers of names and of integers behind the first word, for all lines without a text.
FORMS = {
    "find": (1, 1), "link": (1, 2), "unite": (1, 2), "grow": (1, 1), "copy": (2, 0), "swap": (2, 0), "drop": (1, 0),
    "flatten": (1, 0), "undo": (0, 0), "redo": (0, 0), "names": (0, 0), "total": (0, 0), "show": (1, 0),
    "root": (1, 1), "depth": (1, 1), "distance": (2, 0),
}


def parse_rest(word, rest):
    """Returns the list of what stands behind the first word of a line, integers parsed. Raises ParseError."""
    if word == "new" and len(rest) >= 1:
        return [rest[0], parse_forest(" ".join(rest[1:]))]
    if word == "run" and len(rest) >= 2:
        return [rest[0], parse_history(" ".join(rest[1:]))]
    if word not in FORMS:
        raise ParseError(0)
    names, integers = FORMS[word]
    if len(rest) != names + integers:
        raise ParseError(0)
    return rest[:names] + [parse_integer(number) for number in rest[names:]]


def parse_line(line):
    """Returns the tuple of the first word of a line and of what stands behind it. Raises ParseError."""
    word, *rest = line.split(" ")
    if word == "" or "" in rest:
        raise ParseError(0)
    return tuple([word] + parse_rest(word, rest))


def do_undo(store):
    """Undoes the last step."""
    store.undo()
    return "ok"


def do_redo(store):
    """Redoes the step that was undone last."""
    store.redo()
    return "ok"


def tell_names(store):
    """Returns the names, or none."""
    return " ".join(store.names()) if store.names() else "none"


def tell_total(store):
    """Returns the total cost."""
    return str(store.total_cost())


def tell_forest(store, name):
    """Returns the text of a forest, or empty."""
    forest = store.forest_of(name)
    return format_forest(forest) if forest else "empty"


def tell_root(store, name, node):
    """Returns the root of a node."""
    return str(root_of(store.forest_of(name), node))


def tell_depth(store, name, node):
    """Returns the depth of a node."""
    return str(depth_of(store.forest_of(name), node))


def tell_distance(store, name, other):
    """Returns the number of needed nodes on the way from one forest to another."""
    return str(store.distance(name, other))


ANSWERS = {
    "undo": do_undo, "redo": do_redo, "names": tell_names, "total": tell_total, "show": tell_forest,
    "root": tell_root, "depth": tell_depth, "distance": tell_distance,
}


def answer_parts(store, parts):
    """Returns the answer to a parsed line. Raises the errors of its command or question."""
    word, *rest = parts
    if word not in ANSWERS:
        return str(store.apply(parts))
    action = ANSWERS[word]
    return action(store, *rest)


class Console:
    """Answers lines with a store."""

    def __init__(self, *, store=None):
        # A store without forests counts as false, so that it must be compared with None.
        self.kept = Store() if store is None else store

    def store(self):
        """Returns the very store that the console uses."""
        return self.kept

    def answer(self, line):
        """Returns the answer to a line."""
        try:
            parts = parse_line(line)
        except ParseError:
            return "invalid"
        try:
            return answer_parts(self.kept, parts)
        except (ForestError, Missing, EmptyHistory) as error:
            return f"error {error.tag}"
