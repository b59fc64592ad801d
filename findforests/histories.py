"""Histories: lists of finds, links and rounds, and what they do, without going through all repetitions."""

from findforests.errors import BadStep, TooLong
from findforests.finds import find, link
from findforests.forests import check_number

MAX_STEPS = 100
MAX_NESTING = 4
COUNT_LIMIT = 10 ** 30
UNROLL_LIMIT = 1000


def is_find(step):
    """Returns whether a step is a find."""
    return isinstance(step, int)


def has_form(step, word):
    """Returns whether a step is a tuple of three items that begins with the word."""
    return isinstance(step, tuple) and len(step) == 3 and step[0] == word


def is_link(step):
    """Returns whether a step is a link."""
    return has_form(step, "link") and isinstance(step[2], int)


def is_round(step):
    """Returns whether a step is a round, whatever its inner steps are."""
    return has_form(step, "repeat") and isinstance(step[2], (list, tuple)) and 0 <= step[1] <= COUNT_LIMIT


def may_stand(step, depth):
    """Returns whether a step may stand inside so many rounds, whatever its inner steps are."""
    if is_link(step):
        return depth == 0
    if is_round(step):
        return depth < MAX_NESTING
    return is_find(step)


def check_steps(steps, depth, pos):
    """Checks steps inside so many rounds, the first of them at this position. Returns the position behind them."""
    for step in steps:
        if pos >= MAX_STEPS:
            raise TooLong(MAX_STEPS)
        if not may_stand(step, depth):
            raise BadStep(pos)
        pos += 1
        if is_round(step):
            pos = check_steps(step[2], depth + 1, pos)
    return pos


def check_history(history):
    """Returns None if a list of steps is a history. Raises TooLong or BadStep otherwise."""
    check_steps(history, 0, 0)


def finds_in(steps):
    """Returns the number of finds in checked steps."""
    total = 0
    for step in steps:
        if is_find(step):
            total += 1
        elif is_round(step):
            total += step[1] * finds_in(step[2])
    return total


def count_finds(history):
    """Returns the number of finds. Raises the errors of check_history."""
    check_history(history)
    return finds_in(history)


def nodes_in(steps):
    """Returns the list of the nodes that checked steps find, with each round done once or not at all."""
    nodes = []
    for step in steps:
        if is_find(step):
            nodes.append(step)
        elif is_round(step) and step[1] > 0:
            nodes.extend(nodes_in(step[2]))
    return nodes


def found_nodes(history):
    """Returns the ascending list of the nodes that are found. Raises the errors of check_history."""
    check_history(history)
    return sorted(set(nodes_in(history)))


def with_tuples(step):
    """Returns a checked step in which the steps of all rounds are tuples."""
    if is_round(step):
        return ("repeat", step[1], tuple([with_tuples(inner) for inner in step[2]]))
    return step


def epochs(history):
    """Returns the list of the lists of steps before, between and behind the links.

    The steps of rounds are tuples. Raises the errors of check_history.
    """
    check_history(history)
    parts = [[]]
    for step in history:
        if is_link(step):
            parts.append([])
        else:
            parts[-1].append(with_tuples(step))
    return parts


def written_out(steps):
    """Returns the list of the finds and links of checked steps, repetitions included."""
    rows = []
    for step in steps:
        if not is_round(step):
            rows.append(step)
        # A count around no find at all may be too great for a list to be repeated so often.
        elif finds_in([step]) > 0:
            rows.extend(written_out(step[2]) * step[1])
    return rows


def unroll(history, *, limit=UNROLL_LIMIT):
    """Returns the history with all rounds written out, as a list of nodes and links.

    Raises the errors of check_history, and TooLong with limit if there are more finds.
    """
    if count_finds(history) > limit:
        raise TooLong(limit)
    return written_out(history)


def lower_finds(forest, steps):
    """Returns the number of finds, in checked finds and rounds, of nodes that are no roots."""
    total = 0
    for step in steps:
        if is_find(step):
            total += 1 if forest[step] != step else 0
        # The forest need not have the nodes of a round that is never done.
        elif step[1] > 0:
            total += step[1] * lower_finds(forest, step[2])
    return total


def run_round(forest, step):
    """Returns the pair of the forest after a checked round and its cost."""
    if step[1] == 0:
        return forest, 0
    after, cost = run_steps(forest, step[2])
    # Whatever is found again hangs on its root already, so that the forest stays as it is.
    return after, cost + (step[1] - 1) * lower_finds(after, step[2])


def run_steps(forest, steps):
    """Returns the pair of the forest after checked steps and the sum of their costs."""
    total = 0
    for step in steps:
        cost = 0
        if is_find(step):
            forest, cost = find(forest, step)
        elif is_link(step):
            forest = link(forest, step[1], step[2])
        else:
            forest, cost = run_round(forest, step)
        total += cost
    return forest, total


def run_history(forest, history):
    """Returns the pair of the forest after all steps and the sum of all costs.

    Raises the errors of check_history, then NoNode, NotRoot or SameRoot for the first find or link that does.
    """
    check_history(history)
    return run_steps(forest, history)


def chain_of_three(size, node):
    """Returns a forest of at least three nodes in which the node is a leaf of depth 2."""
    above, root = [low for low in range(size) if low != node][:2]
    parents = list(range(size))
    parents[node] = above
    parents[above] = root
    return tuple(parents)


def effect_difference(one, other, size):
    """Returns None if two histories without links have the same effect on every forest over so many nodes.

    Otherwise returns a pair (forest, node): the node has different parents after the two histories. Raises the
    errors of check_history for one, then for other, then NoNode for the least wrong node of one, then of other.
    """
    first = found_nodes(one)
    second = found_nodes(other)
    for node in first + second:
        check_number(size, node)
    # Only a find of a leaf moves it, and only if its depth is 2 or more, which takes three nodes.
    differing = sorted(set(first) ^ set(second))
    if size < 3 or not differing:
        return None
    return chain_of_three(size, differing[0]), differing[0]
