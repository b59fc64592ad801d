"""What several test files need: exact comparisons, and forests, finds and logs straight from the definitions."""

import collections
import functools
import itertools
import unittest

from findforests.store import Store


def reaches_root(parents, node):
    """Whether the parents lead to a root, found by going far enough up."""
    for step in range(len(parents)):
        node = parents[node]
    return parents[node] == node


@functools.lru_cache(maxsize=None)
def small_forests(size):
    """All forests over so many nodes, without a call of the package."""
    nodes = range(size)
    rows = itertools.product(nodes, repeat=size)
    return tuple(row for row in rows if all(reaches_root(row, node) for node in nodes))


@functools.lru_cache(maxsize=None)
def small_trees(size):
    """All trees over so many nodes, without a call of the package."""
    return tuple(row for row in small_forests(size) if sum(row[node] == node for node in range(size)) == 1)


def nodes_above(forest, node):
    """The nodes above a node, nearest first, by recursion instead of a loop."""
    parent = forest[node]
    return [] if parent == node else [parent] + nodes_above(forest, parent)


def costs_of(forest, nodes):
    """The costs of finds of the nodes one after another, without a call of the package."""
    parents = list(forest)
    costs = []
    for node in nodes:
        path = [node, *nodes_above(parents, node)]
        for passed in path:
            parents[passed] = path[-1]
        costs.append(len(path) - 1)
    return tuple(costs)


def agreeing(size, nodes):
    """A counter from the costs that finds of the nodes may have to the numbers of trees."""
    return collections.Counter(costs_of(tree, nodes) for tree in small_trees(size))


def is_conflict(log, pos):
    """Whether an entry contradicts the ones before it, by the cases of the document."""
    node, cost = log[pos]
    earlier = [paid for found, paid in log[:pos] if found == node]
    if earlier and earlier[0] >= 1:
        return cost != 1
    if earlier:
        return cost != 0
    return cost == 0 and any(paid == 0 for found, paid in log[:pos])


def first_conflict(log):
    """The first index whose entry contradicts the ones before it, or None."""
    return next((pos for pos in range(len(log)) if is_conflict(log, pos)), None)


def is_short(size, log, pos):
    """Whether the first finds from an index on have more slots than there are fillers, as the document counts."""
    firsts = [index for index, (node, cost) in enumerate(log)
              if cost >= 1 and node not in [found for found, paid in log[:index]]]
    slots = 0
    for index in firsts:
        cost = log[index][1]
        if index >= pos and cost > 1:
            slots += cost - 1 if index == firsts[0] else cost - 2
    fillers = size - 1 - len(firsts) + sum(log[index][1] == 1 and index > pos for index in firsts)
    return slots > fillers


def random_tree(source, size, reach):
    """A tree in which each node hangs on one of the few before it, with its nodes in any order."""
    order = list(range(size))
    source.shuffle(order)
    parents = list(order)
    for place, node in enumerate(order):
        parents[node] = order[max(0, place - source.randint(1, reach))] if place else node
    return tuple(parents)


def store_with(**forests):
    """A store with these forests, each added by a step of its own, in this order."""
    store = Store()
    for name, forest in forests.items():
        store.apply(("new", name, forest))
    return store


class ForestCase(unittest.TestCase):
    def assert_answer(self, answer, wanted):
        """Equal, and of the same kinds throughout: True is not 1, a list is no tuple."""
        self.assertEqual(answer, wanted)
        self.assertEqual(repr(answer), repr(wanted))

    def assert_error(self, kind, field, value, call, *args, **named):
        """Exactly this error, with this field and its tag."""
        with self.assertRaises(kind) as caught:
            call(*args, **named)
        self.assertIs(caught.exception.__class__, kind)
        self.assert_answer(getattr(caught.exception, field), value)
        self.assertEqual(caught.exception.tag, kind.__name__)

    def assert_keywords(self, call, **named):
        """Calls by keyword, in any order, answer as the call by position, or raise the same error."""
        wanted = outcome(call, list(named.values()), {})
        for keys in itertools.permutations(named):
            shuffled = {key: named[key] for key in keys}
            self.assertEqual(outcome(call, [], shuffled), wanted)
        first, *others = named
        mixed = {key: named[key] for key in others}
        self.assertEqual(outcome(call, [named[first]], mixed), wanted)

    def assert_fresh(self, call, *args):
        """A list or a dict that was returned and changed does not change what comes later."""
        wanted = repr(call(*args))
        spoil(call(*args))
        self.assertEqual(repr(call(*args)), wanted)


def outcome(call, args, named):
    """The answer of a call, or its error, as something that can be compared."""
    try:
        return "answer", repr(call(*args, **named))
    except (ValueError, LookupError) as error:
        return error.tag, repr(error.__dict__)


def spoil(answer):
    """Changes a list or a dict, also one inside a tuple or a list."""
    if isinstance(answer, (tuple, list)):
        for part in answer:
            spoil(part)
    if isinstance(answer, list):
        answer.insert(0, 99)
    elif isinstance(answer, dict):
        answer[99] = 99
