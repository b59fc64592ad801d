"""Numbers of choices, trees and forests, and lists of all small ones."""

from findforests.errors import BadSize, TooManyNodes
from findforests.forests import is_forest, roots_of

MAX_SIZE = 60
MAX_LISTED = 5


def power_of(base, exponent):
    """Returns the power of an integer with an exponent of 0 or more."""
    product = 1
    for turn in range(exponent):
        product *= base
    return product


def falling(size, chosen):
    """Returns the number of ways to choose so many different things of so many, one after another."""
    if chosen < 0 or chosen > max(size, 0):
        return 0
    product = 1
    for taken in range(chosen):
        product *= size - taken
    return product


def binomial(size, chosen):
    """Returns the number of ways to choose so many different things of so many, in no order."""
    if chosen < 0:
        return 0
    return falling(size, chosen) // falling(chosen, chosen)


def check_size(size):
    """Returns None if a size is 0 to MAX_SIZE. Raises BadSize otherwise."""
    if not 0 <= size <= MAX_SIZE:
        raise BadSize(size)


def count_trees(size):
    """Returns the number of trees over so many nodes. Raises BadSize."""
    # Each node is the root of equally many trees.
    return size * count_forests(size)


def count_forests(size, *, roots=1):
    """Returns the number of forests over so many nodes whose roots are the nodes 0 to roots - 1. Raises BadSize."""
    check_size(size)
    if not 0 <= roots <= size:
        return 0
    # The formula below would need the exponent -1 here.
    if roots == size:
        return 1
    return roots * power_of(size, size - roots - 1)


def all_forests(size):
    """Returns the ascending list of all forests over so many nodes. Raises TooManyNodes."""
    if size > MAX_LISTED:
        raise TooManyNodes(MAX_LISTED)
    rows = [()]
    for node in range(size):
        rows = [(*row, parent) for row in rows for parent in range(size)]
    return [row for row in rows if is_forest(row)]


def all_trees(size):
    """Returns the ascending list of all trees over so many nodes. Raises TooManyNodes."""
    return [forest for forest in all_forests(size) if len(roots_of(forest)) == 1]
