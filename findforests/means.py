"""Mean and greatest total costs of so many finds."""

from findforests.counts import power_of
from findforests.errors import BadCount, BadWeight
from findforests.finds import find
from findforests.forests import all_depths, check_node, subtree_of
from findforests.ways import deep_nodes

MAX_WEIGHT = 1000
MAX_TIMES = 20


def check_times(times):
    """Returns None if a number of finds is 0 to MAX_TIMES. Raises BadCount otherwise."""
    if not 0 <= times <= MAX_TIMES:
        raise BadCount(times)


def check_weights(forest, weights):
    """Returns None if a dict has weights of nodes only, all within the bounds. Raises NoNode or BadWeight."""
    nodes = sorted(weights)
    for node in nodes:
        check_node(forest, node)
    for node in nodes:
        if not 1 <= weights[node] <= MAX_WEIGHT:
            raise BadWeight(node)


def weight_of(weights, nodes):
    """Returns the sum of the weights of the nodes of a list."""
    return sum([weights.get(node, 1) for node in nodes])


def greatest_divisor(one, other):
    """Returns the greatest common divisor of two integers of 0 or more that are not both 0."""
    while other != 0:
        one, other = other, one % other
    return one


def lowest_terms(numerator, denominator):
    """Returns a fraction of an integer of 0 or more and a positive one in lowest terms."""
    divisor = greatest_divisor(numerator, denominator)
    return numerator // divisor, denominator // divisor


def marking_sum(forest, times, weights, whole):
    """Returns the mean number of marked nodes with a depth of two or more, times whole ** times."""
    total = 0
    for node in deep_nodes(forest):
        # A node stays unmarked if no find hits it or a node below it.
        missing = whole - weight_of(weights, subtree_of(forest, node))
        total += power_of(whole, times) - power_of(missing, times)
    return total


def mean_total(forest, times, *, weights=None):
    """Returns the mean total cost of so many random finds, as a pair (numerator, denominator) in lowest terms.

    Raises BadCount, then NoNode with the least wrong node in weights, then BadWeight with the least such node.
    """
    check_times(times)
    table = {} if weights is None else weights
    check_weights(forest, table)
    if not forest:
        return 0, 1
    nodes = list(range(len(forest)))
    whole = weight_of(table, nodes)
    lower = weight_of(table, [node for node in nodes if forest[node] != node])
    scale = power_of(whole, times)
    numerator = whole * marking_sum(forest, times, table, whole) + times * lower * scale
    return lowest_terms(numerator, whole * scale)


def deepest_node(forest):
    """Returns the least of the nodes with the greatest depth of a forest that has nodes."""
    depths = all_depths(forest)
    return max(depths, key=lambda node: depths[node])


def most_total(forest, times):
    """Returns the greatest total cost of a list of so many finds, or 0 if there are no nodes. Raises BadCount."""
    check_times(times)
    if not forest:
        return 0
    total = 0
    # The paths that finds mark grow together towards the root, so that taking the longest one each time is best.
    for turn in range(times):
        forest, cost = find(forest, deepest_node(forest))
        total += cost
    return total
