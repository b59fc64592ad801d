"""findforests.ways: whether finds lead from one forest to another, and by which lists."""

import itertools
import math
import unittest

from findforests.errors import NoWay, RootsDiffer, SizesDiffer
from findforests.finds import find, find_all
from findforests.ways import (
    bar_holds, changed_nodes, count_ways, deep_nodes, find_bar, flattened, flattening_finds, is_needed, needed_finds,
    same_trees, way_cost,
)
from tests.helpers import ForestCase, nodes_above, small_forests

MANY = 10 ** 30
CHAIN = (0, 0, 1, 2, 3)
SEVERAL = (4, 1, 1, 2, 4, 0, 6, 3)
LONG_CHAIN = tuple(max(0, node - 1) for node in range(40))
# Node 0 is the root, node 1 hangs on it, and all others on node 1.
BROOM = (0, 0) + (1,) * 38
PAIR_ONLY = [changed_nodes, find_bar, needed_finds, count_ways, way_cost]
WITH_FOREST = [deep_nodes, flattened, flattening_finds]


def all_calls():
    """Each function with one and other, as a function of these two only."""
    for call in PAIR_ONLY:
        yield call
    for bar in [(0, 0), (-1, MANY), (3, 2)]:
        yield lambda one, other, bar=bar: bar_holds(one, other, bar)
    for node in [0, 2, -1, MANY]:
        yield lambda one, other, node=node: is_needed(one, other, node)


def roots(forest):
    return [node for node, parent in enumerate(forest) if node == parent]


def root(forest, node):
    return ([node] + nodes_above(forest, node))[-1]


def pairs_of(size):
    """All pairs of forests over so many nodes with the same roots."""
    for one, other in itertools.product(small_forests(size), repeat=2):
        if roots(one) == roots(other):
            yield one, other


def changed_in(one, other):
    return [node for node in range(len(one)) if one[node] != other[node]]


def bars_of(one, other):
    """All pairs that bar the way, in the order of find_bar, straight from the definition."""
    bars = []
    for changed in changed_in(one, other):
        for node in [changed] + nodes_above(one, changed):
            if one[node] != node and other[node] != root(one, node):
                bars.append((changed, node))
    return bars


def shortest_lists(one):
    """A dict from each forest that finds can reach to its shortest lists of finds, with their total costs."""
    reached = {one: [((), 0)]}
    level = {one: [((), 0)]}
    while level:
        after = {}
        for forest, rows in level.items():
            for node in range(len(one)):
                low, cost = find(forest, node)
                if low not in reached:
                    after.setdefault(low, []).extend((nodes + (node,), total + cost) for nodes, total in rows)
        reached.update(after)
        level = after
    return reached


class PairTest(ForestCase):
    def test_examples(self):
        self.assert_answer(changed_nodes((0, 0, 1, 2), (0, 0, 0, 0)), [2, 3])
        self.assert_answer(find_bar((0, 0, 1, 2), (0, 0, 1, 0)), (3, 2))
        self.assert_answer(bar_holds((0, 0, 1, 2), (0, 0, 1, 0), (3, 2)), True)
        self.assert_answer(bar_holds((0, 0, 1, 2), (0, 0, 1, 0), (3, 1)), False)
        self.assert_answer(needed_finds((0, 0, 1, 2), (0, 0, 0, 0)), [3])
        self.assert_answer(is_needed((0, 0, 1, 2), (0, 0, 0, 0), 2), False)
        self.assert_answer(is_needed((0, 0, 1, 2), (0, 0, 0, 0), 3), True)
        self.assert_answer(count_ways((0, 0, 1, 1, 1), (0, 0, 0, 0, 0)), 6)
        self.assert_answer(way_cost((0, 0, 1, 1, 1), (0, 0, 0, 0, 0)), 6)

    def test_sizes_differ(self):
        for call in [*all_calls(), same_trees]:
            for one, other in [((), (0,)), ((0,), ()), ((0, 0), (0,)), ((0, 0), (1, 1, 1)), (CHAIN, LONG_CHAIN)]:
                self.assert_error(SizesDiffer, "size", len(other), call, one, other)

    def test_roots_differ(self):
        pairs = [
            ((0, 0), (1, 1), 0),
            ((0, 1), (0, 0), 1),
            ((0, 0), (0, 1), 1),
            ((0, 0, 2, 2), (0, 0, 3, 3), 2),
            ((0, 0, 1, 3, 3), (0, 0, 1, 0, 4), 3),
        ]
        for call in all_calls():
            for one, other, node in pairs:
                self.assert_error(RootsDiffer, "node", node, call, one, other)
                self.assert_error(RootsDiffer, "node", node, call, other, one)

    def test_roots_differ_for_all_small_forests(self):
        for size in range(4):
            for one, other in itertools.product(small_forests(size), repeat=2):
                if roots(one) != roots(other):
                    least = min(set(roots(one)) ^ set(roots(other)))
                    for call in all_calls():
                        self.assert_error(RootsDiffer, "node", least, call, one, other)

    def test_equal_forests(self):
        for forest in [(), (0,), CHAIN, SEVERAL, LONG_CHAIN]:
            self.assert_answer(changed_nodes(forest, forest), [])
            self.assert_answer(find_bar(forest, forest), None)
            self.assert_answer(bar_holds(forest, forest, (0, 0)), False)
            self.assert_answer(needed_finds(forest, forest), [])
            self.assert_answer(is_needed(forest, forest, 0), False)
            self.assert_answer(count_ways(forest, forest), 1)
            self.assert_answer(way_cost(forest, forest), 0)
            self.assert_answer(same_trees(forest, forest), True)

    def test_a_node_above_a_changed_one_bars(self):
        # 3 and 2 hang on the root afterwards, but 1 would too if 3 had been found.
        one, other = (0, 4, 1, 2, 0), (0, 4, 0, 0, 0)
        self.assert_answer(find_bar(one, other), (2, 1))
        self.assert_answer(bar_holds(one, other, (3, 1)), True)
        self.assert_answer(bar_holds(one, other, (3, 2)), False)
        self.assert_error(NoWay, "node", 2, needed_finds, one, other)

    def test_a_changed_node_bars_itself(self):
        one, other = (0, 0, 1, 3, 3), (0, 0, 3, 3, 3)
        self.assert_answer(find_bar(one, other), (2, 2))
        for call in [needed_finds, count_ways, way_cost]:
            self.assert_error(NoWay, "node", 2, call, one, other)

    def test_least_changed_node_with_a_bar(self):
        # Node 1 is changed and has no bar; 3 and 4 have one.
        one, other = (0, 2, 0, 2, 3), (0, 0, 0, 2, 2)
        self.assert_answer(find_bar(one, other), (4, 4))
        one, other = (0, 2, 0, 2, 3), (0, 0, 0, 4, 0)
        self.assert_answer(changed_nodes(one, other), [1, 3, 4])
        self.assert_answer(find_bar(one, other), (3, 3))
        self.assert_answer(bar_holds(one, other, (4, 3)), True)
        self.assert_answer(bar_holds(one, other, (1, 1)), False)
        self.assert_error(NoWay, "node", 3, count_ways, one, other)

    def test_integers_that_are_no_nodes(self):
        one, other = (0, 0, 1, 2), (0, 0, 1, 0)
        for number in [-1, -2, 4, MANY, -MANY]:
            for bar in [(number, 2), (3, number), (number, number)]:
                self.assert_answer(bar_holds(one, other, bar), False)
            self.assert_answer(is_needed(one, other, number), False)
            self.assert_answer(is_needed((), (), number), False)
            self.assert_answer(bar_holds((), (), (number, number)), False)

    def test_many_nodes(self):
        self.assert_answer(needed_finds(LONG_CHAIN, (0,) * 40), [39])
        self.assert_answer(count_ways(LONG_CHAIN, (0,) * 40), 1)
        self.assert_answer(way_cost(LONG_CHAIN, (0,) * 40), 39)
        self.assert_answer(needed_finds(BROOM, (0,) * 40), list(range(2, 40)))
        self.assert_answer(count_ways(BROOM, (0,) * 40), math.factorial(38))
        self.assert_answer(way_cost(BROOM, (0,) * 40), 76)

    def test_keywords(self):
        pairs = [(CHAIN, (0, 0, 0, 0, 0)), (CHAIN, (0, 0, 0, 0, 3)), (CHAIN, (0, 0, 1, 0, 3)), (CHAIN, (0,)),
                 ((0, 0), (1, 1)), ((), ())]
        for one, other in pairs:
            for call in [*PAIR_ONLY, same_trees]:
                self.assert_keywords(call, one=one, other=other)
            for number in [2, 3, -1]:
                self.assert_keywords(is_needed, one=one, other=other, node=number)
                self.assert_keywords(bar_holds, one=one, other=other, bar=(3, number))

    def test_a_list_as_bar(self):
        for bar in itertools.product(range(-1, 5), repeat=2):
            wanted = bar_holds((0, 0, 1, 2), (0, 0, 1, 0), bar)
            passed = list(bar)
            self.assert_answer(bar_holds((0, 0, 1, 2), (0, 0, 1, 0), passed), wanted)
            self.assert_answer(passed, list(bar))

    def test_results_are_new(self):
        for other in [CHAIN, (0, 0, 0, 0, 3), (0, 0, 0, 0, 0)]:
            self.assert_fresh(changed_nodes, CHAIN, other)
            self.assert_fresh(needed_finds, CHAIN, other)


class SearchTest(ForestCase):
    def check_way(self, one, other, rows):
        """The answers against the shortest lists that a search found, or None if it found no way."""
        if rows is None:
            least = bars_of(one, other)[0]
            self.assert_answer(find_bar(one, other), least)
            for call in [needed_finds, count_ways, way_cost]:
                self.assert_error(NoWay, "node", least[0], call, one, other)
            return
        self.assert_answer(find_bar(one, other), None)
        needed = needed_finds(one, other)
        self.assert_answer(needed, sorted(rows[0][0]))
        self.assertEqual(sorted(nodes for nodes, cost in rows), sorted(itertools.permutations(needed)))
        self.assert_answer(count_ways(one, other), len(rows))
        self.assertEqual({cost for nodes, cost in rows}, {way_cost(one, other)})

    def check_nodes(self, one, other):
        size = len(one)
        changed = changed_in(one, other)
        self.assert_answer(changed_nodes(one, other), changed)
        bars = bars_of(one, other)
        for bar in itertools.product(range(-1, size + 1), repeat=2):
            self.assert_answer(bar_holds(one, other, bar), bar in bars)
        for node in range(-1, size + 1):
            below = [low for low in changed if node in nodes_above(one, low)]
            self.assert_answer(is_needed(one, other, node), node in changed and not below)

    def test_all_pairs_of_small_forests(self):
        for size in range(5):
            searched = {one: shortest_lists(one) for one in small_forests(size)}
            for one, other in pairs_of(size):
                self.check_way(one, other, searched[one].get(other))
                self.check_nodes(one, other)

    def test_trees_over_five_nodes_with_one_root(self):
        trees = [forest for forest in small_forests(5) if roots(forest) == [2]]
        for one in trees:
            reached = shortest_lists(one)
            for other in trees:
                # Most of the other trees cannot be reached; a few of them are enough.
                if other in reached or sum(other) % 7 == sum(one) % 7:
                    self.check_way(one, other, reached.get(other))

    def test_every_list_contains_all_needed_nodes(self):
        for one in small_forests(4):
            for nodes in itertools.product(range(4), repeat=3):
                other = find_all(one, list(nodes))[0]
                self.assertLessEqual(set(needed_finds(one, other)), set(nodes))


class OneForestTest(ForestCase):
    def test_examples(self):
        self.assert_answer(deep_nodes((0, 0, 1, 2)), [2, 3])
        self.assert_answer(flattened((0, 0, 1, 2, 4)), (0, 0, 0, 0, 4))
        self.assert_answer(flattening_finds((0, 0, 1, 2, 1)), [3, 4])

    def test_forests(self):
        self.assert_answer(deep_nodes(()), [])
        self.assert_answer(flattened(()), ())
        self.assert_answer(flattening_finds(()), [])
        self.assert_answer(deep_nodes(SEVERAL), [3, 5, 7])
        self.assert_answer(flattened(SEVERAL), (4, 1, 1, 1, 4, 4, 6, 1))
        self.assert_answer(flattening_finds(SEVERAL), [5, 7])
        self.assert_answer(deep_nodes(LONG_CHAIN), list(range(2, 40)))
        self.assert_answer(flattened(LONG_CHAIN), (0,) * 40)
        self.assert_answer(flattening_finds(LONG_CHAIN), [39])

    def test_all_small_forests(self):
        for size in range(6):
            for forest in small_forests(size):
                depths = [len(nodes_above(forest, node)) for node in range(size)]
                self.assert_answer(deep_nodes(forest), [node for node in range(size) if depths[node] > 1])
                flat = find_all(forest, list(range(size)))[0]
                self.assert_answer(flattened(forest), flat)
                leaves = [node for node in range(size) if depths[node] > 1 and node not in forest]
                self.assert_answer(flattening_finds(forest), leaves)

    def test_keywords_and_new_results(self):
        for call in WITH_FOREST:
            for forest in [(), CHAIN, SEVERAL]:
                self.assert_keywords(call, forest=forest)
                self.assert_fresh(call, forest)


class SameTreesTest(ForestCase):
    def test_example(self):
        answers = [same_trees((0, 0, 1), (0, 0, 0)), same_trees((0, 0), (1, 1))]
        self.assert_answer(answers, [True, False])

    def test_other_roots_raise_nothing(self):
        self.assert_answer(same_trees((0, 1), (0, 0)), False)
        self.assert_answer(same_trees((0, 0, 2), (0, 2, 2)), False)
        self.assert_answer(same_trees((), ()), True)

    def test_all_small_forests(self):
        for size in range(4):
            for one, other in itertools.product(small_forests(size), repeat=2):
                same = roots(one) == roots(other)
                same = same and all(root(one, node) == root(other, node) for node in range(size))
                self.assert_answer(same_trees(one, other), same)


if __name__ == "__main__":
    unittest.main()
