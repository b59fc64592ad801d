"""Forests as tuples of parents: what a forest is, and its paths, depths, roots and subtrees."""

from findforests.errors import BadParent, Cycle, NoNode, TooManyNodes

MAX_NODES = 40


def leads_to_root(parents, node):
    """Returns whether the parents lead from the node to a root."""
    place = node
    # A way that passes no node twice ends within as many nodes as there are.
    for step in range(len(parents)):
        if parents[place] == place:
            return True
        place = parents[place]
    return False


def check_forest(parents):
    """Returns None if a tuple of integers is a forest. Raises TooManyNodes, BadParent or Cycle otherwise."""
    if len(parents) > MAX_NODES:
        raise TooManyNodes(MAX_NODES)
    for node, parent in enumerate(parents):
        if not 0 <= parent < len(parents):
            raise BadParent(node)
    for node in range(len(parents)):
        if not leads_to_root(parents, node):
            raise Cycle(node)


def is_forest(parents):
    """Returns whether a tuple of integers is a forest."""
    try:
        check_forest(parents)
    except (TooManyNodes, BadParent, Cycle):
        return False
    return True


def single_nodes(size):
    """Returns the forest of so many roots. Raises TooManyNodes."""
    if size > MAX_NODES:
        raise TooManyNodes(MAX_NODES)
    return tuple(range(size))


def check_number(size, node):
    """Returns None if an integer is one of the nodes 0 to size - 1. Raises NoNode otherwise."""
    # Python would take a negative index as one from the end.
    if not 0 <= node < size:
        raise NoNode(node)


def check_node(forest, node):
    """Returns None if the forest has the node. Raises NoNode otherwise."""
    check_number(len(forest), node)


def path_of(forest, node):
    """Returns the list of the nodes from the node up to its root. Raises NoNode."""
    check_node(forest, node)
    path = [node]
    while forest[path[-1]] != path[-1]:
        path.append(forest[path[-1]])
    return path


def root_of(forest, node):
    """Returns the root of the node. Raises NoNode."""
    return path_of(forest, node)[-1]


def depth_of(forest, node):
    """Returns the number of nodes above the node. Raises NoNode."""
    return len(path_of(forest, node)) - 1


def all_depths(forest):
    """Returns a dict from each node to its depth."""
    return {node: depth_of(forest, node) for node in range(len(forest))}


def is_above(forest, one, other):
    """Returns whether the node one is above the node other. Raises NoNode for one, then for other."""
    check_node(forest, one)
    path = path_of(forest, other)
    return one != other and one in path


def roots_of(forest):
    """Returns the ascending list of the roots."""
    return [node for node, parent in enumerate(forest) if node == parent]


def children_of(forest, node):
    """Returns the ascending list of the nodes below the node whose parent it is. Raises NoNode."""
    check_node(forest, node)
    # A root is its own parent, but not its own child.
    return [child for child, parent in enumerate(forest) if parent == node and child != node]


def subtree_of(forest, node):
    """Returns the ascending list of the node and all nodes below it. Raises NoNode."""
    check_node(forest, node)
    return [low for low in range(len(forest)) if node in path_of(forest, low)]


def height_of(forest):
    """Returns the greatest depth, or 0 if there are no nodes."""
    return max([depth_of(forest, node) for node in range(len(forest))], default=0)
