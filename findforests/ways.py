"""Ways between forests: whether finds lead from one to the other, which finds it takes, and what they cost."""

from findforests.counts import falling
from findforests.errors import NoWay, RootsDiffer, SizesDiffer
from findforests.finds import total_cost
from findforests.forests import depth_of, is_above, path_of, root_of


def check_sizes(one, other):
    """Returns None if two forests have equally many nodes. Raises SizesDiffer otherwise."""
    if len(one) != len(other):
        raise SizesDiffer(len(other))


def check_roots(one, other):
    """Returns None if two forests with equally many nodes have the same roots. Raises RootsDiffer otherwise."""
    for node in range(len(one)):
        if (one[node] == node) != (other[node] == node):
            raise RootsDiffer(node)


def changed_nodes(one, other):
    """Returns the ascending list of the changed nodes. Raises SizesDiffer or RootsDiffer."""
    check_sizes(one, other)
    check_roots(one, other)
    return [node for node in range(len(one)) if one[node] != other[node]]


def barring_nodes(one, other, changed):
    """Returns the nodes on the path of a changed node in one that bar the way together with it, nearest first."""
    path = path_of(one, changed)
    return [node for node in path[:-1] if other[node] != path[-1]]


def find_bar(one, other):
    """Returns None if finds lead from one to other, or the first pair that bars the way.

    Raises SizesDiffer or RootsDiffer.
    """
    for changed in changed_nodes(one, other):
        barring = barring_nodes(one, other, changed)
        if barring:
            return changed, barring[0]
    return None


def bar_holds(one, other, bar):
    """Returns whether a pair of integers bars the way. Raises SizesDiffer or RootsDiffer."""
    changed, node = bar
    return changed in changed_nodes(one, other) and node in barring_nodes(one, other, changed)


def needed_finds(one, other):
    """Returns the ascending list of the needed nodes. Raises SizesDiffer, RootsDiffer or NoWay."""
    bar = find_bar(one, other)
    if bar is not None:
        raise NoWay(bar[0])
    return [node for node in range(len(one)) if is_needed(one, other, node)]


def is_needed(one, other, node):
    """Returns whether the node is changed and no node below it in one is. Raises SizesDiffer or RootsDiffer."""
    changed = changed_nodes(one, other)
    if node not in changed:
        return False
    return not any([is_above(one, node, low) for low in changed])


def count_ways(one, other):
    """Returns the number of shortest lists of finds from one to other. Raises the errors of needed_finds."""
    many = len(needed_finds(one, other))
    return falling(many, many)


def way_cost(one, other):
    """Returns the total cost of each shortest list of finds. Raises the errors of needed_finds."""
    return total_cost(one, needed_finds(one, other))


def deep_nodes(forest):
    """Returns the ascending list of the nodes whose depth is 2 or more."""
    return [node for node in range(len(forest)) if depth_of(forest, node) >= 2]


def flattened(forest):
    """Returns the forest after finds of all nodes."""
    return tuple([root_of(forest, node) for node in range(len(forest))])


def flattening_finds(forest):
    """Returns the ascending list of the needed nodes on the way to the flattened forest."""
    return needed_finds(forest, flattened(forest))


def same_trees(one, other):
    """Returns whether two forests have the same roots, and each node the same root in both. Raises SizesDiffer."""
    check_sizes(one, other)
    # The roots are the nodes that are their own roots, so that they need no comparison of their own.
    return flattened(one) == flattened(other)
