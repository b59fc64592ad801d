"""Texts of integers, forests and histories. Only what is written for one of them can be parsed."""

from findforests.errors import BadStep, ParseError, TooLong
from findforests.forests import is_forest
from findforests.histories import check_history, is_find, is_link

MAX_DIGITS = 31


def parse_integer(text):
    """Returns the integer of a text. Raises ParseError (0)."""
    digits = text[1:] if text.startswith("-") else text
    # Python's own reading would take signs, spaces and underscores that are never written.
    if not 1 <= len(digits) <= MAX_DIGITS or not all(["0" <= digit <= "9" for digit in digits]):
        raise ParseError(0)
    number = int(text)
    if str(number) != text:
        raise ParseError(0)
    return number


def format_forest(forest):
    """Returns the text of a forest."""
    return " ".join(["-" if node == parent else str(parent) for node, parent in enumerate(forest)])


def parse_forest(text):
    """Returns the forest of a text. Raises ParseError (0)."""
    words = text.split(" ") if text else []
    parents = tuple([node if word == "-" else parse_integer(word) for node, word in enumerate(words)])
    # A root that is written by its number is a forest, but not its text.
    if not is_forest(parents) or format_forest(parents) != text:
        raise ParseError(0)
    return parents


def format_step(step):
    """Returns the text of a checked step."""
    if is_find(step):
        return str(step)
    if is_link(step):
        return f"{step[1]}>{step[2]}"
    return f"{step[1]}*({format_steps(step[2])})"


def format_steps(steps):
    """Returns the text of checked steps."""
    return " ".join([format_step(step) for step in steps])


def format_history(history):
    """Returns the text of a history. Raises the errors of check_history."""
    check_history(history)
    return format_steps(history)


def is_history(steps):
    """Returns whether a list of steps is a history."""
    try:
        check_history(steps)
    except (TooLong, BadStep):
        return False
    return True


def parse_single(word):
    """Returns the find or the link of a word. Raises ParseError (0)."""
    child, sign, above = word.partition(">")
    if sign:
        return "link", parse_integer(child), parse_integer(above)
    return parse_integer(word)


def parse_words(words):
    """Returns the list of the steps of words: finds, links, beginnings and ends of rounds. Raises ParseError (0)."""
    steps = []
    # The counts of the rounds that are not closed, each with the steps around it: brackets may be nested deeper
    # than calls.
    outer = []
    for word in words:
        if word.endswith("*("):
            outer.append((parse_integer(word[:-2]), steps))
            steps = []
        elif word != ")":
            steps.append(parse_single(word))
        elif outer:
            count, around = outer.pop()
            around.append(("repeat", count, tuple(steps)))
            steps = around
        else:
            raise ParseError(0)
    if outer:
        raise ParseError(0)
    return steps


def parse_history(text):
    """Returns the history of a text, as a list whose rounds have tuples. Raises ParseError (0)."""
    history = parse_words(text.replace("*(", "*( ").replace(")", " ) ").split())
    # The words do not tell where spaces stood, but the text of their history does.
    if not is_history(history) or format_steps(history) != text:
        raise ParseError(0)
    return history
