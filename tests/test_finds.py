"""findforests.finds: finds, links, and lists of finds in any order."""

import itertools
import unittest

from findforests.errors import NoNode, NotRoot, SameRoot
from findforests.finds import find, find_all, forest_after, link, marked_nodes, total_cost, unite
from findforests.forests import path_of
from tests.helpers import ForestCase, nodes_above, small_forests

CHAIN = (0, 0, 1, 2, 3)
RISING = (1, 2, 3, 4, 4)
STAR = (2, 2, 2, 2, 2)
SEVERAL = (4, 1, 1, 2, 4, 0, 6, 3)
LONG_CHAIN = tuple(max(0, node - 1) for node in range(40))
NO_NODES = [8, 9, -1, -8, -10 ** 30, 10 ** 30]
WITH_LIST = [find_all, marked_nodes, forest_after, total_cost]
LISTS = [[], [7], [1], [6, 4, 1], [7, 7, 7], [3, 7, 5, 1, 7, 2], [5, 0, 5], [2, 3], [0, 1, 2, 3, 4, 5, 6, 7]]


class FindTest(ForestCase):
    def test_example(self):
        self.assert_answer(find((0, 0, 1, 2, 3), 3), ((0, 0, 0, 0, 3), 3))

    def test_roots(self):
        self.assert_answer(find((0,), 0), ((0,), 0))
        self.assert_answer(find(STAR, 2), (STAR, 0))
        self.assert_answer(find(SEVERAL, 6), (SEVERAL, 0))

    def test_depth_one(self):
        self.assert_answer(find(STAR, 0), (STAR, 1))
        self.assert_answer(find(SEVERAL, 2), (SEVERAL, 1))

    def test_deeper(self):
        self.assert_answer(find(CHAIN, 2), ((0, 0, 0, 2, 3), 2))
        self.assert_answer(find(RISING, 0), ((4, 4, 4, 4, 4), 4))
        self.assert_answer(find(RISING, 2), ((1, 2, 4, 4, 4), 2))
        self.assert_answer(find(SEVERAL, 7), ((4, 1, 1, 1, 4, 0, 6, 1), 3))
        self.assert_answer(find(LONG_CHAIN, 39), ((0,) * 40, 39))

    def test_second_find_of_the_same_node(self):
        once = find(CHAIN, 4)[0]
        self.assert_answer(find(once, 4), (once, 1))
        self.assert_answer(find(SEVERAL, 4), (SEVERAL, 0))

    def test_no_node(self):
        for bad in NO_NODES:
            self.assert_error(NoNode, "node", bad, find, SEVERAL, bad)
        self.assert_error(NoNode, "node", 0, find, (), 0)

    def test_all_small_forests(self):
        for size in range(5):
            for forest in small_forests(size):
                for node in range(size):
                    above = nodes_above(forest, node)
                    root = ([node] + above)[-1]
                    hung = [node] + above
                    after = tuple(root if low in hung else forest[low] for low in range(size))
                    self.assert_answer(find(forest, node), (after, len(above)))

    def test_keywords(self):
        for node in [0, 5, 7, 8, -1]:
            self.assert_keywords(find, forest=SEVERAL, node=node)


class FindAllTest(ForestCase):
    def test_example(self):
        self.assert_answer(find_all((0, 0, 1, 2, 3), [2, 4, 2]), ((0, 0, 0, 0, 0), [2, 3, 1]))

    def test_lists(self):
        self.assert_answer(find_all((), []), ((), []))
        self.assert_answer(find_all(SEVERAL, []), (SEVERAL, []))
        self.assert_answer(find_all(CHAIN, [0, 1, 0]), (CHAIN, [0, 1, 0]))
        self.assert_answer(find_all(CHAIN, [4, 3, 2, 1, 0]), ((0, 0, 0, 0, 0), [4, 1, 1, 1, 0]))
        self.assert_answer(find_all(CHAIN, [2, 3, 4]), ((0, 0, 0, 0, 0), [2, 2, 2]))
        self.assert_answer(find_all(SEVERAL, [5, 7, 5]), ((4, 1, 1, 1, 4, 4, 6, 1), [2, 3, 1]))

    def test_finds_one_after_another(self):
        forest, costs = SEVERAL, []
        for node in [3, 7, 5, 1, 7, 2]:
            forest, cost = find(forest, node)
            costs.append(cost)
        self.assert_answer(find_all(SEVERAL, [3, 7, 5, 1, 7, 2]), (forest, costs))


class LinkTest(ForestCase):
    def test_examples(self):
        self.assert_answer(link((0, 0, 2), 2, 0), (0, 0, 0))
        self.assert_error(NotRoot, "node", 1, link, (0, 0, 2), 1, 2)

    def test_links(self):
        self.assert_answer(link((0, 0, 2), 0, 2), (2, 0, 2))
        self.assert_answer(link((0, 1), 0, 1), (1, 1))
        self.assert_answer(link(SEVERAL, 1, 6), (4, 6, 1, 2, 4, 0, 6, 3))

    def test_errors_of_one_node(self):
        for bad in NO_NODES:
            self.assert_error(NoNode, "node", bad, link, SEVERAL, bad, 6)
            self.assert_error(NoNode, "node", bad, link, SEVERAL, 6, bad)
        self.assert_error(NotRoot, "node", 3, link, SEVERAL, 3, 6)
        self.assert_error(NotRoot, "node", 3, link, SEVERAL, 6, 3)
        self.assert_error(NotRoot, "node", 2, link, SEVERAL, 1, 2)
        self.assert_error(NoNode, "node", 0, link, (), 0, 0)

    def test_child_before_above(self):
        self.assert_error(NoNode, "node", 8, link, SEVERAL, 8, 9)
        self.assert_error(NoNode, "node", -1, link, SEVERAL, -1, 3)
        self.assert_error(NotRoot, "node", 3, link, SEVERAL, 3, -1)
        self.assert_error(NotRoot, "node", 3, link, SEVERAL, 3, 2)

    def test_equal_nodes(self):
        self.assert_error(SameRoot, "node", 6, link, SEVERAL, 6, 6)
        self.assert_error(SameRoot, "node", 0, link, (0,), 0, 0)
        self.assert_error(NotRoot, "node", 3, link, SEVERAL, 3, 3)
        self.assert_error(NoNode, "node", 8, link, SEVERAL, 8, 8)
        self.assert_error(NoNode, "node", -2, link, SEVERAL, -2, -2)

    def test_keywords(self):
        for child, above in [(1, 6), (6, 1), (6, 6), (3, 6), (6, 8), (8, 3)]:
            self.assert_keywords(link, forest=SEVERAL, child=child, above=above)


class UniteTest(ForestCase):
    def test_example(self):
        self.assert_answer(unite((0, 0, 1, 3, 3), 2, 4), ((3, 0, 0, 3, 3), 3))

    def test_different_roots(self):
        self.assert_answer(unite((0, 1), 0, 1), ((1, 1), 0))
        self.assert_answer(unite((0, 1), 1, 0), ((0, 0), 0))
        self.assert_answer(unite((0, 0, 1, 3, 3), 4, 2), ((0, 0, 0, 0, 3), 3))
        self.assert_answer(unite(SEVERAL, 7, 5), ((4, 4, 1, 1, 4, 4, 6, 1), 5))
        self.assert_answer(unite(SEVERAL, 5, 6), ((4, 1, 1, 2, 6, 4, 6, 3), 2))

    def test_same_root(self):
        self.assert_answer(unite(CHAIN, 2, 4), ((0, 0, 0, 0, 0), 5))
        self.assert_answer(unite(CHAIN, 4, 2), ((0, 0, 0, 0, 0), 5))
        self.assert_answer(unite(CHAIN, 0, 3), ((0, 0, 0, 0, 3), 3))

    def test_equal_nodes(self):
        self.assert_answer(unite(CHAIN, 3, 3), ((0, 0, 0, 0, 3), 4))
        self.assert_answer(unite(CHAIN, 1, 1), (CHAIN, 2))
        self.assert_answer(unite(CHAIN, 0, 0), (CHAIN, 0))

    def test_no_node(self):
        for bad in NO_NODES:
            self.assert_error(NoNode, "node", bad, unite, SEVERAL, bad, 7)
            self.assert_error(NoNode, "node", bad, unite, SEVERAL, 7, bad)
            self.assert_error(NoNode, "node", bad, unite, SEVERAL, bad, bad)
            self.assert_error(NoNode, "node", 11, unite, SEVERAL, 11, bad)
            self.assert_error(NoNode, "node", bad, unite, SEVERAL, bad, 11)

    def test_all_small_forests(self):
        for size in range(5):
            for forest in small_forests(size):
                for one, other in itertools.product(range(size), repeat=2):
                    first, cost = find(forest, one)
                    second, more = find(first, other)
                    child, above = path_of(second, one)[-1], path_of(second, other)[-1]
                    wanted = second if child == above else link(second, child, above)
                    self.assert_answer(unite(forest, one, other), (wanted, cost + more))

    def test_keywords(self):
        for one, other in [(7, 5), (5, 7), (3, 3), (8, 9), (0, -1)]:
            self.assert_keywords(unite, forest=SEVERAL, one=one, other=other)


class AnyOrderTest(ForestCase):
    def test_examples(self):
        self.assert_answer(marked_nodes((0, 0, 1, 2, 3), [2, 0]), [1, 2])
        self.assert_answer(forest_after((0, 0, 1, 2, 3), [2, 3]), (0, 0, 0, 0, 3))
        self.assert_answer(total_cost((0, 0, 1, 2, 3), [2, 4, 2]), 6)

    def test_empty_list(self):
        for forest in [(), (0,), CHAIN, SEVERAL]:
            self.assert_answer(marked_nodes(forest, []), [])
            self.assert_answer(forest_after(forest, []), forest)
            self.assert_answer(total_cost(forest, []), 0)

    def test_roots_only(self):
        self.assert_answer(marked_nodes(SEVERAL, [6, 1, 6]), [])
        self.assert_answer(forest_after(SEVERAL, [6, 1, 6]), SEVERAL)
        self.assert_answer(total_cost(SEVERAL, [6, 1, 6]), 0)

    def test_repetitions(self):
        self.assert_answer(marked_nodes(SEVERAL, [7, 7, 3, 7]), [2, 3, 7])
        self.assert_answer(forest_after(SEVERAL, [7, 7, 3, 7]), (4, 1, 1, 1, 4, 0, 6, 1))
        self.assert_answer(total_cost(SEVERAL, [7, 7, 3, 7]), 6)
        self.assert_answer(total_cost(SEVERAL, [2, 2, 2, 1]), 3)

    def test_marked_nodes_ascend(self):
        self.assert_answer(marked_nodes(RISING, [0]), [0, 1, 2, 3])
        self.assert_answer(marked_nodes(SEVERAL, [7, 5]), [0, 2, 3, 5, 7])
        self.assert_answer(marked_nodes(LONG_CHAIN, [39, 20]), list(range(1, 40)))

    def test_long_lists(self):
        self.assert_answer(total_cost(LONG_CHAIN, [39] * 200), 38 + 200)
        self.assert_answer(sum(find_all(LONG_CHAIN, [39] * 200)[1]), 38 + 200)

    def check_list(self, forest, nodes):
        size = len(forest)
        touched = {passed for node in nodes for passed in [node] + nodes_above(forest, node)}
        marked = [node for node in range(size) if node in touched and forest[node] != node]
        after, costs = find_all(forest, nodes)
        self.assert_answer(marked_nodes(forest, nodes), marked)
        self.assert_answer(forest_after(forest, nodes), after)
        self.assert_answer(total_cost(forest, nodes), sum(costs))

    def test_all_small_forests_and_lists(self):
        for size in range(5):
            for forest in small_forests(size):
                for length in range(4):
                    for nodes in itertools.product(range(size), repeat=length):
                        self.check_list(forest, list(nodes))

    def test_every_order_gives_the_same(self):
        for forest in [CHAIN, RISING, (0, 0, 1, 1, 3), (4, 0, 1, 3, 4)]:
            for nodes in [[4, 2, 0, 2], [3, 1, 4, 2, 0], [1, 1, 3, 3]]:
                orders = [list(order) for order in itertools.permutations(nodes)]
                for order in orders:
                    after, costs = find_all(forest, order)
                    self.assert_answer(forest_after(forest, nodes), after)
                    self.assert_answer(total_cost(forest, nodes), sum(costs))
                    self.assert_answer(marked_nodes(forest, order), marked_nodes(forest, nodes))


class ListRulesTest(ForestCase):
    def test_first_bad_node(self):
        for call in WITH_LIST:
            with self.subTest(call.__name__):
                for bad in NO_NODES:
                    for nodes in [[bad], [bad, 0], [7, bad], [7, 0, bad, 3], [6, 7, bad, 11], [bad, -4], [bad, bad]]:
                        self.assert_error(NoNode, "node", bad, call, SEVERAL, nodes)
                self.assert_error(NoNode, "node", 0, call, (), [0])

    def test_tuple_in_place_of_a_list(self):
        for call in WITH_LIST:
            for nodes in LISTS:
                self.assert_answer(call(SEVERAL, tuple(nodes)), call(SEVERAL, nodes))
            self.assert_error(NoNode, "node", -1, call, SEVERAL, (7, -1, 9))

    def test_arguments_do_not_change(self):
        for call in WITH_LIST:
            for nodes in LISTS:
                passed = list(nodes)
                call(SEVERAL, passed)
                self.assertEqual(passed, nodes)
            passed = [7, 8, -1]
            self.assert_error(NoNode, "node", 8, call, SEVERAL, passed)
            self.assertEqual(passed, [7, 8, -1])

    def test_results_are_new(self):
        for call in WITH_LIST:
            for nodes in LISTS:
                passed = list(nodes)
                self.assert_fresh(call, SEVERAL, passed)
                self.assertEqual(passed, nodes)

    def test_keywords(self):
        for call in WITH_LIST:
            for nodes in [*LISTS, [7, 8], [-1, 9]]:
                self.assert_keywords(call, forest=SEVERAL, nodes=nodes)


if __name__ == "__main__":
    unittest.main()
