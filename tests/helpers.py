"""What several test files need: exact comparisons, and all small forests straight from the definition."""

import itertools
import unittest


def reaches_root(parents, node):
    """Whether the parents lead to a root, found by going far enough up."""
    for step in range(len(parents)):
        node = parents[node]
    return parents[node] == node


def small_forests(size):
    """All forests over so many nodes, without a call of the package."""
    nodes = range(size)
    rows = itertools.product(nodes, repeat=size)
    return [row for row in rows if all(reaches_root(row, node) for node in nodes)]


def small_trees(size):
    """All trees over so many nodes, without a call of the package."""
    return [row for row in small_forests(size) if sum(row[node] == node for node in range(size)) == 1]


def nodes_above(forest, node):
    """The nodes above a node, nearest first, by recursion instead of a loop."""
    parent = forest[node]
    return [] if parent == node else [parent] + nodes_above(forest, parent)


class ForestCase(unittest.TestCase):
    def assert_answer(self, answer, wanted):
        """Equal, and of the same kinds throughout: True is not 1, a list is no tuple."""
        self.assertEqual(answer, wanted)
        self.assertEqual(repr(answer), repr(wanted))

    def assert_error(self, kind, field, value, call, *args, **named):
        """Exactly this error, with this field and its tag."""
        with self.assertRaises(kind) as caught:
            call(*args, **named)
        self.assertIs(caught.exception.__class__, kind)
        self.assert_answer(getattr(caught.exception, field), value)
        self.assertEqual(caught.exception.tag, kind.__name__)

    def assert_keywords(self, call, **named):
        """Calls by keyword, in any order, answer as the call by position, or raise the same error."""
        wanted = outcome(call, list(named.values()), {})
        for keys in itertools.permutations(named):
            shuffled = {key: named[key] for key in keys}
            self.assertEqual(outcome(call, [], shuffled), wanted)
        first, *others = named
        mixed = {key: named[key] for key in others}
        self.assertEqual(outcome(call, [named[first]], mixed), wanted)

    def assert_fresh(self, call, *args):
        """A list or a dict that was returned and changed does not change what comes later."""
        wanted = repr(call(*args))
        spoil(call(*args))
        self.assertEqual(repr(call(*args)), wanted)


def outcome(call, args, named):
    """The answer of a call, or its error, as something that can be compared."""
    try:
        return "answer", repr(call(*args, **named))
    except (ValueError, LookupError) as error:
        return error.tag, repr(error.__dict__)


def spoil(answer):
    """Changes a list or a dict, also one inside a tuple or a list."""
    if isinstance(answer, (tuple, list)):
        for part in answer:
            spoil(part)
    if isinstance(answer, list):
        answer.insert(0, 99)
    elif isinstance(answer, dict):
        answer[99] = 99
