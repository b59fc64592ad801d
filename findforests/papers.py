"""Certificates for logs: a tree that agrees, an entry that contradicts, or an index with too few fillers."""

from findforests.finds import find_all
from findforests.forests import is_forest, roots_of
from findforests.logs import check_log, contradicts, find_hidden, slots_of


def places_of_firsts(log):
    """Returns the list of pairs (index, cost) of the first finds of the log."""
    places = []
    found = []
    for index, (node, cost) in enumerate(log):
        if cost > 0 and node not in found:
            places.append((index, cost))
        found.append(node)
    return places


def slots_from(log, pos):
    """Returns the number of slots of the first finds from an index on."""
    places = places_of_firsts(log)
    return sum([slots_of(rank, cost) for rank, (index, cost) in enumerate(places) if index >= pos])


def fillers_from(size, log, pos):
    """Returns the number of fillers from an index on."""
    places = places_of_firsts(log)
    later = [index for index, cost in places if cost == 1 and index > pos]
    return size - 1 - len(places) + len(later)


def is_short(size, log, pos):
    """Returns whether there are more slots than fillers from an index on."""
    return slots_from(log, pos) > fillers_from(size, log, pos)


def log_paper(size, log):
    """Returns a certificate for the log: a tree, else the first conflict, else the least index that is short.

    Raises TooManyNodes, TooLong, NoNode or BadCost.
    """
    tree = find_hidden(size, log)
    if tree is not None:
        return "tree", tree
    conflicts = [pos for pos in range(len(log)) if contradicts(log, pos)]
    if conflicts:
        return "conflict", conflicts[0]
    # With no tree and no conflict, some index is short.
    return "short", [pos for pos in range(len(log) + 1) if is_short(size, log, pos)][0]


def tree_agrees(size, log, parents):
    """Returns whether a tuple of integers is a tree over so many nodes that agrees with the checked log."""
    if len(parents) != size or not is_forest(parents) or len(roots_of(parents)) != 1:
        return False
    after, costs = find_all(parents, [node for node, cost in log])
    return costs == [cost for node, cost in log]


def log_paper_holds(size, log, paper):
    """Returns whether a pair is a correct certificate. Raises TooManyNodes, TooLong, NoNode or BadCost."""
    check_log(size, log)
    word, fact = paper
    if word == "tree":
        return tree_agrees(size, log, fact)
    if word == "conflict":
        return 0 <= fact < len(log) and contradicts(log, fact)
    return word == "short" and 0 <= fact <= len(log) and is_short(size, log, fact)
