"""Finds and links: the forests after them, and what they cost."""

from findforests.errors import NotRoot, SameRoot
from findforests.forests import check_node, depth_of, path_of, root_of


def find(forest, node):
    """Returns the pair of the forest after finding the node, and the cost. Raises NoNode."""
    path = path_of(forest, node)
    parents = list(forest)
    for passed in path:
        parents[passed] = path[-1]
    return tuple(parents), len(path) - 1


def find_all(forest, nodes):
    """Returns the pair of the forest after finding the nodes one after another, and the list of the costs.

    Raises NoNode for the first node of the list that the forest does not have.
    """
    costs = []
    for node in nodes:
        forest, cost = find(forest, node)
        costs.append(cost)
    return forest, costs


def check_root(forest, node):
    """Returns None if the node is a root of the forest. Raises NoNode or NotRoot otherwise."""
    check_node(forest, node)
    if forest[node] != node:
        raise NotRoot(node)


def link(forest, child, above):
    """Returns the forest in which the root child has the parent above.

    Raises NoNode or NotRoot for child, then for above, and SameRoot if they are equal.
    """
    check_root(forest, child)
    check_root(forest, above)
    if child == above:
        raise SameRoot(child)
    parents = list(forest)
    parents[child] = above
    return tuple(parents)


def unite(forest, one, other):
    """Finds the node one, then the node other, and links the root of one to that of other if they differ.

    Returns the pair of the forest and the sum of both costs. Raises NoNode for one, then for other.
    """
    found, costs = find_all(forest, [one, other])
    child = root_of(found, one)
    above = root_of(found, other)
    if child != above:
        found = link(found, child, above)
    return found, sum(costs)


def marked_nodes(forest, nodes):
    """Returns the ascending list of the nodes that finds of a list mark. Raises NoNode for the first bad one."""
    marked = set()
    for node in nodes:
        # The last node of a path is its root, and roots are never marked.
        for passed in path_of(forest, node)[:-1]:
            marked.add(passed)
    return sorted(marked)


def forest_after(forest, nodes):
    """Returns the forest after finds of the nodes of a list in any order. Raises NoNode likewise."""
    parents = list(forest)
    for node in marked_nodes(forest, nodes):
        parents[node] = root_of(forest, node)
    return tuple(parents)


def total_cost(forest, nodes):
    """Returns the total cost of finds of the nodes of a list in any order. Raises NoNode likewise."""
    deep = [node for node in marked_nodes(forest, nodes) if depth_of(forest, node) >= 2]
    # Every find of a node that is no root costs at least 1, also when it is repeated.
    lower = [node for node in nodes if forest[node] != node]
    return len(deep) + len(lower)
