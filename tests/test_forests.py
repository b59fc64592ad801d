"""findforests.forests: what a forest is, and the questions about one."""

import itertools
import unittest

from findforests import forests
from findforests.errors import BadParent, Cycle, NoNode, TooManyNodes
from findforests.forests import (
    MAX_NODES, all_depths, check_forest, children_of, depth_of, height_of, is_above, is_forest, path_of, root_of,
    roots_of, single_nodes, subtree_of,
)
from tests.helpers import ForestCase, nodes_above, small_forests

EMPTY = ()
ONE = (0,)
CHAIN = (0, 0, 1, 2, 3)
# Its root has the greatest number, so that nothing works just because parents are small.
RISING = (1, 2, 3, 4, 4)
STAR = (2, 2, 2, 2, 2)
SEVERAL = (4, 1, 1, 2, 4, 0, 6, 3)
LONG_CHAIN = tuple(max(0, node - 1) for node in range(40))
WITH_NODE = [path_of, root_of, depth_of, children_of, subtree_of]
WITHOUT_NODE = [all_depths, roots_of, height_of]
NO_NODES = [-1, -2, -5, -10 ** 30, 10 ** 30]


class CheckForestTest(ForestCase):
    def assert_no_forest(self, kind, field, value, parents):
        self.assert_error(kind, field, value, check_forest, parents)
        self.assert_answer(is_forest(parents), False)

    def test_examples(self):
        self.assert_error(Cycle, "node", 1, check_forest, (0, 2, 1, 1))
        answers = [is_forest((0, 0, 1)), is_forest((1, 0)), is_forest((0, 2))]
        self.assert_answer(answers, [True, False, False])

    def test_forests(self):
        for parents in [EMPTY, ONE, CHAIN, RISING, STAR, SEVERAL, LONG_CHAIN, tuple(range(40)), (39,) * 40]:
            with self.subTest(parents):
                self.assertIsNone(check_forest(parents))
                self.assert_answer(is_forest(parents), True)

    def test_limit(self):
        self.assert_answer(MAX_NODES, 40)
        self.assertEqual(forests.MAX_NODES, 40)

    def test_too_many_nodes(self):
        for size in [41, 42, 200]:
            self.assert_no_forest(TooManyNodes, "limit", 40, tuple(range(size)))

    def test_parents_that_are_no_nodes(self):
        self.assert_no_forest(BadParent, "node", 0, (-1,))
        self.assert_no_forest(BadParent, "node", 0, (1,))
        self.assert_no_forest(BadParent, "node", 1, (0, 2))
        self.assert_no_forest(BadParent, "node", 1, (0, -1))
        self.assert_no_forest(BadParent, "node", 2, (0, 0, 10 ** 30))
        self.assert_no_forest(BadParent, "node", 2, (0, 0, -10 ** 30))
        self.assert_no_forest(BadParent, "node", 39, tuple(range(39)) + (40,))

    def test_first_node_with_a_bad_parent(self):
        self.assert_no_forest(BadParent, "node", 1, (0, 9, -1, 9))
        self.assert_no_forest(BadParent, "node", 1, (0, -1, 9, -1))
        self.assert_no_forest(BadParent, "node", 2, (3, 3, 4, 4))

    def test_cycles(self):
        self.assert_no_forest(Cycle, "node", 0, (1, 0))
        self.assert_no_forest(Cycle, "node", 0, (1, 2, 0))
        self.assert_no_forest(Cycle, "node", 2, (0, 0, 3, 4, 2))
        self.assert_no_forest(Cycle, "node", 0, tuple((node + 1) % 40 for node in range(40)))

    def test_least_node_may_be_outside_of_the_cycle(self):
        self.assert_no_forest(Cycle, "node", 0, (1, 2, 1))
        self.assert_no_forest(Cycle, "node", 1, (0, 4, 3, 2, 3))
        self.assert_no_forest(Cycle, "node", 1, (0, 2, 3, 4, 5, 4))

    def test_least_node_of_several_cycles(self):
        self.assert_no_forest(Cycle, "node", 1, (0, 4, 3, 2, 1))
        self.assert_no_forest(Cycle, "node", 2, (1, 1, 5, 4, 3, 2))

    def test_order_of_the_errors(self):
        self.assert_no_forest(TooManyNodes, "limit", 40, (-1,) * 41)
        self.assert_no_forest(TooManyNodes, "limit", 40, (1, 0) * 21)
        self.assert_no_forest(TooManyNodes, "limit", 40, (1, 0, 99) + (0,) * 38)
        self.assert_no_forest(BadParent, "node", 2, (1, 0, 3))
        self.assert_no_forest(BadParent, "node", 2, (1, 0, -1))

    def test_all_small_tuples(self):
        for size in range(5):
            good = set(small_forests(size))
            for parents in itertools.product(range(size), repeat=size):
                self.assert_answer(is_forest(parents), parents in good)

    def test_keywords(self):
        for parents in [SEVERAL, (1, 0), (0, 5), tuple(range(41))]:
            self.assert_keywords(check_forest, parents=parents)
            self.assert_keywords(is_forest, parents=parents)


class SingleNodesTest(ForestCase):
    def test_example(self):
        self.assert_answer(single_nodes(3), (0, 1, 2))

    def test_edges(self):
        self.assert_answer(single_nodes(0), ())
        self.assert_answer(single_nodes(1), (0,))
        self.assert_answer(single_nodes(40), tuple(range(40)))

    def test_too_many(self):
        for size in [41, 42, 10 ** 30]:
            self.assert_error(TooManyNodes, "limit", 40, single_nodes, size)

    def test_keywords(self):
        self.assert_keywords(single_nodes, size=5)
        self.assert_keywords(single_nodes, size=41)


class PathTest(ForestCase):
    def test_examples(self):
        self.assert_answer(path_of((0, 0, 1, 2), 3), [3, 2, 1, 0])
        self.assert_error(NoNode, "node", 2, path_of, (0, 0), 2)
        self.assert_answer(root_of((0, 0, 1, 3), 2), 0)
        self.assert_answer(depth_of((0, 0, 1, 3), 2), 2)
        self.assert_answer(sorted(all_depths((0, 0, 1, 3)).items()), [(0, 0), (1, 1), (2, 2), (3, 0)])

    def test_paths(self):
        self.assert_answer(path_of(ONE, 0), [0])
        self.assert_answer(path_of(RISING, 1), [1, 2, 3, 4])
        self.assert_answer(path_of(STAR, 2), [2])
        self.assert_answer(path_of(STAR, 4), [4, 2])
        self.assert_answer(path_of(SEVERAL, 7), [7, 3, 2, 1])
        self.assert_answer(path_of(SEVERAL, 5), [5, 0, 4])
        self.assert_answer(path_of(LONG_CHAIN, 39), list(range(39, -1, -1)))

    def test_roots_and_depths(self):
        self.assert_answer([root_of(SEVERAL, node) for node in range(8)], [4, 1, 1, 1, 4, 4, 6, 1])
        self.assert_answer([depth_of(SEVERAL, node) for node in range(8)], [1, 0, 1, 2, 0, 2, 0, 3])
        self.assert_answer(root_of(RISING, 0), 4)
        self.assert_answer(depth_of(RISING, 0), 4)
        self.assert_answer(depth_of(LONG_CHAIN, 39), 39)

    def test_all_depths(self):
        self.assert_answer(all_depths(EMPTY), {})
        self.assert_answer(all_depths(ONE), {0: 0})
        self.assertEqual(all_depths(STAR), {0: 1, 1: 1, 2: 0, 3: 1, 4: 1})
        self.assertEqual(all_depths(RISING), {0: 4, 1: 3, 2: 2, 3: 1, 4: 0})
        self.assertEqual(all_depths(SEVERAL), {0: 1, 1: 0, 2: 1, 3: 2, 4: 0, 5: 2, 6: 0, 7: 3})

    def test_height(self):
        self.assert_answer(height_of((0, 0, 1, 0)), 2)
        heights = [height_of(forest) for forest in [EMPTY, ONE, (0, 1), STAR, CHAIN, RISING, SEVERAL, LONG_CHAIN]]
        self.assert_answer(heights, [0, 0, 0, 1, 4, 4, 3, 39])

    def test_more_nodes_than_the_limit_raise_nothing(self):
        longer = tuple(max(0, node - 1) for node in range(45))
        self.assert_answer(depth_of(longer, 44), 44)
        self.assert_answer(height_of(longer), 44)


class AboveTest(ForestCase):
    def test_example(self):
        self.assert_answer([is_above((0, 0, 1), 0, 2), is_above((0, 0, 1), 2, 2)], [True, False])

    def test_above_and_below(self):
        self.assert_answer(is_above(CHAIN, 3, 4), True)
        self.assert_answer(is_above(CHAIN, 0, 4), True)
        self.assert_answer(is_above(CHAIN, 4, 0), False)
        self.assert_answer(is_above(RISING, 4, 0), True)
        self.assert_answer(is_above(RISING, 0, 4), False)
        self.assert_answer(is_above(STAR, 0, 1), False)
        self.assert_answer(is_above(SEVERAL, 2, 5), False)

    def test_no_node_is_above_itself(self):
        for node in range(8):
            self.assert_answer(is_above(SEVERAL, node, node), False)

    def test_first_node_is_checked_first(self):
        for bad in [8, *NO_NODES]:
            self.assert_error(NoNode, "node", bad, is_above, SEVERAL, bad, 0)
            self.assert_error(NoNode, "node", bad, is_above, SEVERAL, 0, bad)
            self.assert_error(NoNode, "node", bad, is_above, SEVERAL, bad, 9)
            self.assert_error(NoNode, "node", bad, is_above, SEVERAL, bad, bad)
            self.assert_error(NoNode, "node", 9, is_above, SEVERAL, 9, bad)
        self.assert_error(NoNode, "node", 0, is_above, EMPTY, 0, 1)

    def test_keywords(self):
        for one, other in [(0, 5), (5, 0), (3, 3), (8, 9), (0, -1)]:
            self.assert_keywords(is_above, forest=SEVERAL, one=one, other=other)


class NodeListTest(ForestCase):
    def test_examples(self):
        self.assert_answer(roots_of((0, 0, 1, 3)), [0, 3])
        self.assert_answer(children_of((0, 0, 1, 0), 0), [1, 3])
        self.assert_answer(subtree_of((0, 0, 1, 0), 1), [1, 2])

    def test_roots(self):
        roots = [roots_of(forest) for forest in [EMPTY, ONE, CHAIN, RISING, STAR, SEVERAL, (0, 1, 2)]]
        self.assert_answer(roots, [[], [0], [0], [4], [2], [1, 4, 6], [0, 1, 2]])

    def test_children(self):
        self.assert_answer(children_of(ONE, 0), [])
        self.assert_answer(children_of(STAR, 2), [0, 1, 3, 4])
        self.assert_answer(children_of(STAR, 0), [])
        self.assert_answer([children_of(RISING, node) for node in range(5)], [[], [0], [1], [2], [3]])
        children = [children_of(SEVERAL, node) for node in range(8)]
        self.assert_answer(children, [[5], [2], [3], [7], [0], [], [], []])

    def test_subtrees(self):
        self.assert_answer(subtree_of(ONE, 0), [0])
        self.assert_answer(subtree_of(STAR, 2), [0, 1, 2, 3, 4])
        self.assert_answer(subtree_of(STAR, 3), [3])
        self.assert_answer(subtree_of(RISING, 2), [0, 1, 2])
        self.assert_answer(subtree_of(SEVERAL, 1), [1, 2, 3, 7])
        self.assert_answer(subtree_of(SEVERAL, 4), [0, 4, 5])
        self.assert_answer(subtree_of(SEVERAL, 6), [6])
        self.assert_answer(subtree_of(LONG_CHAIN, 0), list(range(40)))


class AllSmallForestsTest(ForestCase):
    def check_node(self, forest, node):
        above = nodes_above(forest, node)
        nodes = range(len(forest))
        below = [low for low in nodes if node in nodes_above(forest, low)]
        self.assert_answer(path_of(forest, node), [node] + above)
        self.assert_answer(root_of(forest, node), ([node] + above)[-1])
        self.assert_answer(depth_of(forest, node), len(above))
        self.assert_answer([is_above(forest, one, node) for one in nodes], [one in above for one in nodes])
        self.assert_answer(children_of(forest, node), [low for low in below if forest[low] == node])
        self.assert_answer(subtree_of(forest, node), sorted(below + [node]))

    def test_all(self):
        for size in range(5):
            for forest in small_forests(size):
                depths = {node: len(nodes_above(forest, node)) for node in range(size)}
                self.assertEqual(all_depths(forest), depths)
                self.assert_answer(height_of(forest), max([0, *depths.values()]))
                self.assert_answer(roots_of(forest), [node for node in range(size) if depths[node] == 0])
                for node in range(size):
                    self.check_node(forest, node)


class GeneralRulesTest(ForestCase):
    def test_no_node(self):
        for call in WITH_NODE:
            with self.subTest(call.__name__):
                for bad in [8, 9, *NO_NODES]:
                    self.assert_error(NoNode, "node", bad, call, SEVERAL, bad)
                self.assert_error(NoNode, "node", 1, call, ONE, 1)
                self.assert_error(NoNode, "node", -1, call, ONE, -1)
                self.assert_error(NoNode, "node", 0, call, EMPTY, 0)
                self.assert_error(NoNode, "node", 40, call, LONG_CHAIN, 40)

    def test_keywords(self):
        for call in WITH_NODE:
            for node in [0, 1, 7, 8, -1]:
                self.assert_keywords(call, forest=SEVERAL, node=node)
        for call in WITHOUT_NODE:
            self.assert_keywords(call, forest=SEVERAL)

    def test_results_are_new(self):
        for call in [path_of, children_of, subtree_of]:
            for node in range(8):
                self.assert_fresh(call, SEVERAL, node)
        for call in [all_depths, roots_of]:
            for forest in [EMPTY, ONE, SEVERAL]:
                self.assert_fresh(call, forest)


if __name__ == "__main__":
    unittest.main()
