"""Logs of finds and costs: how many hidden trees agree with one, an example, and what the next find may cost."""

from findforests.counts import binomial, count_forests, falling
from findforests.errors import BadCost, TooLong, TooManyNodes
from findforests.finds import find_all
from findforests.forests import check_number

MAX_LOG_NODES = 20
MAX_LOG = 60


def log_of(forest, nodes):
    """Returns the log of a list of finds that begin with the forest. Raises NoNode for the first bad node."""
    after, costs = find_all(forest, nodes)
    return list(zip(nodes, costs))


def check_log(size, log):
    """Returns None if a log fits so many nodes. Raises TooManyNodes, TooLong, NoNode or BadCost otherwise."""
    if size > MAX_LOG_NODES:
        raise TooManyNodes(MAX_LOG_NODES)
    if len(log) > MAX_LOG:
        raise TooLong(MAX_LOG)
    for pos, (node, cost) in enumerate(log):
        check_number(size, node)
        if cost < 0:
            raise BadCost(pos)


def contradicts(log, pos):
    """Returns whether the entry at an index of the log contradicts the entries before it."""
    node, cost = log[pos]
    before = log[:pos]
    costs = [paid for found, paid in before if found == node]
    if costs:
        return cost != min(costs[0], 1)
    return cost == 0 and 0 in [paid for found, paid in before]


def has_conflict(log):
    """Returns whether some entry of the log contradicts the entries before it."""
    return any([contradicts(log, pos) for pos in range(len(log))])


def first_finds(log):
    """Returns the list of the entries with a cost of 1 or more whose nodes were not found before."""
    costs = {}
    for node, cost in log:
        costs.setdefault(node, cost)
    return [(node, cost) for node, cost in costs.items() if cost > 0]


def add_ways(table, key, ways):
    """Adds a number of ways to what a table has for the key."""
    table[key] = table.get(key, 0) + ways


def after_shallow(states):
    """Returns the states after a first find with the cost 1."""
    after = {}
    for (used, holes), ways in states.items():
        add_ways(after, (used, holes), ways)
        if holes > 0:
            add_ways(after, (used, holes - 1), ways * holes)
    return after


def add_chains(after, state, ways, slots, fillers, later):
    """Adds the states in which a first find has so many slots, each filled or left as a hole."""
    used, holes = state
    left = fillers - used
    # The bounds keep the loop short even if a cost is greater than all numbers of nodes.
    for more in range(max(0, slots - left), min(slots, later - holes) + 1):
        chosen = binomial(slots, more) * falling(left, slots - more)
        add_ways(after, (used + slots - more, holes + more), ways * chosen)


def after_deep(states, index, cost, fillers, later):
    """Returns the states after the first find with this index and a cost of 2 or more."""
    after = {}
    for (used, holes), ways in states.items():
        marked = index + used + holes
        # The chain hangs on the root, or it is shorter by one and hangs on a marked node.
        add_chains(after, (used, holes), ways, cost - 1, fillers, later)
        add_chains(after, (used, holes), ways * marked, cost - 2, fillers, later)
    return after


def marking_states(costs, fillers):
    """Returns a dict from states to numbers of ways in which first finds with these costs mark nodes.

    A state is a pair: the number of fillers that are marked, and the number of holes. A hole is a place on a path
    for a node that is found later, with the cost 1. It is left open until then, because the nodes that may stand
    in a slot become fewer from find to find.
    """
    states = {(0, 0): 1}
    for index, cost in enumerate(costs):
        later = len([paid for paid in costs[index + 1:] if paid == 1])
        if cost == 1:
            states = after_shallow(states)
        else:
            states = after_deep(states, index, cost, fillers, later)
    return states


def count_agreeing(size, log):
    """Returns the number of trees over so many nodes that agree with a checked log of any length."""
    costs = [cost for node, cost in first_finds(log)]
    fillers = size - 1 - len(costs)
    if has_conflict(log):
        return 0
    total = 0
    for (used, holes), ways in marking_states(costs, fillers).items():
        if holes == 0:
            # The nodes that are not marked hang on the root and the marked ones in any way.
            total += ways * count_forests(size, roots=1 + len(costs) + used)
    known = 0 in [cost for node, cost in log]
    # The root is none of the first finds; if all nodes are first finds, there is none left for it.
    return total if known else total * (fillers + 1)


def count_hidden(size, log):
    """Returns the number of trees that agree with the log. Raises TooManyNodes, TooLong, NoNode or BadCost."""
    check_log(size, log)
    return count_agreeing(size, log)


def slots_of(index, cost):
    """Returns the number of slots of the first find with this index among the first finds."""
    if cost == 1:
        return 0
    return cost - 1 if index == 0 else cost - 2


def fill_slots(firsts, fillers):
    """Returns the list of the nodes in the slots of each first find, or None if there are too few fillers."""
    left = list(fillers)
    chains = []
    # The last find has the fewest nodes to choose from, and all of them serve the earlier ones too.
    for index in reversed(range(len(firsts))):
        node, cost = firsts[index]
        slots = slots_of(index, cost)
        if slots > len(left):
            return None
        chains.append(left[:slots])
        left = left[slots:]
        if cost == 1:
            left.append(node)
    return chains[::-1]


def hang_chains(size, root, firsts, chains):
    """Returns the tree in which each first find with a cost of 2 or more is below the nodes in its slots."""
    parents = [root] * size
    top = root
    for (node, cost), chain in zip(firsts, chains):
        if cost > 1:
            path = [node, *chain, top]
            for low, above in zip(path, path[1:]):
                parents[low] = above
        # From the second one on, a chain that hangs on a marked node needs one node less.
        top = firsts[0][0]
    return tuple(parents)


def find_hidden(size, log):
    """Returns a tree that agrees with the log, or None. Raises TooManyNodes, TooLong, NoNode or BadCost."""
    check_log(size, log)
    found = [node for node, cost in log]
    unknown = [node for node in range(size) if node not in found]
    candidates = [node for node, cost in log if cost == 0] + unknown
    if not candidates or has_conflict(log):
        return None
    root = candidates[0]
    firsts = first_finds(log)
    chains = fill_slots(firsts, [node for node in unknown if node != root])
    return None if chains is None else hang_chains(size, root, firsts, chains)


def next_costs(size, log, node):
    """Returns the ascending list of pairs (cost, number) of what a find of the node after the log may cost.

    Raises TooManyNodes, TooLong, NoNode or BadCost for the log, then NoNode for the node.
    """
    check_log(size, log)
    check_number(size, node)
    rows = []
    for cost in range(size):
        number = count_agreeing(size, [*log, (node, cost)])
        if number > 0:
            rows.append((cost, number))
    return rows
