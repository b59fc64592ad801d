"""findforests.logs: hidden trees behind logs of finds and costs."""

import itertools
import random
import unittest

from findforests import logs
from findforests.errors import BadCost, NoNode, TooLong, TooManyNodes
from findforests.forests import check_forest
from findforests.logs import count_hidden, find_hidden, log_of, next_costs
from tests.helpers import ForestCase, agreeing, costs_of, first_conflict, is_short, random_tree

MANY = 10 ** 30
SEVERAL = (4, 1, 1, 2, 4, 0, 6, 3)
LONG_CHAIN = tuple(max(0, node - 1) for node in range(40))


def log_calls():
    """Each function with size and log, as a function of these two only. The node of next_costs is always wrong."""
    yield count_hidden
    yield find_hidden
    yield lambda size, log: next_costs(size, log, 99)
    yield lambda size, log: next_costs(size=size, log=log, node=-1)


class LogOfTest(ForestCase):
    def test_example(self):
        self.assert_answer(log_of((0, 0, 1, 2), [2, 3, 2]), [(2, 2), (3, 2), (2, 1)])

    def test_against_single_finds(self):
        for forest in [SEVERAL, (0, 1), (0,), LONG_CHAIN]:
            source = random.Random(5)
            for length in [0, 1, 2, 5, 60, 200]:
                nodes = [source.randrange(len(forest)) for number in range(length)]
                self.assert_answer(log_of(forest, nodes), list(zip(nodes, costs_of(forest, nodes))))

    def test_no_nodes(self):
        self.assert_answer(log_of((), []), [])

    def test_no_node(self):
        for bad in [8, -1, -8, MANY, -MANY]:
            for nodes in [[bad], [bad, 99], [7, 7, bad, -5], (0, bad)]:
                self.assert_error(NoNode, "node", bad, log_of, SEVERAL, nodes)
        self.assert_error(NoNode, "node", 0, log_of, (), [0])

    def test_rules_for_lists(self):
        for nodes in [[], [7], [7, 5, 7, 6]]:
            passed = list(nodes)
            self.assert_answer(log_of(SEVERAL, tuple(nodes)), log_of(SEVERAL, passed))
            self.assert_fresh(log_of, SEVERAL, passed)
            self.assertEqual(passed, nodes)
            self.assert_keywords(log_of, forest=SEVERAL, nodes=nodes)
        self.assert_keywords(log_of, forest=SEVERAL, nodes=[1, 8])


class HiddenTest(ForestCase):
    def test_examples(self):
        answers = [count_hidden(3, [(0, 1)]), count_hidden(3, [(0, 2)]), count_hidden(3, [(0, 2), (1, 1)])]
        self.assert_answer(answers, [4, 2, 1])
        self.assert_answer(find_hidden(3, [(0, 2), (1, 1)]), (1, 2, 2))

    def test_limits(self):
        self.assert_answer(logs.MAX_LOG_NODES, 20)
        self.assert_answer(logs.MAX_LOG, 60)

    def test_no_nodes(self):
        self.assert_answer(count_hidden(0, []), 0)
        self.assert_answer(find_hidden(0, []), None)

    def test_empty_log(self):
        for size in range(1, 21):
            self.assert_answer(count_hidden(size, []), size ** (size - 1))
            self.assert_tree(find_hidden(size, []), size, [])

    def assert_tree(self, tree, size, log):
        self.assertIsInstance(tree, tuple)
        check_forest(tree)
        self.assertEqual(len(tree), size)
        self.assertEqual(sum(tree[node] == node for node in range(size)), 1)
        self.assert_answer(log_of(tree, [node for node, cost in log]), log)

    def check_log(self, size, log, number):
        """Both answers against the number of trees that agree, and against the conditions of the document."""
        self.assert_answer(count_hidden(size, log), number)
        tree = find_hidden(size, log)
        if number == 0:
            self.assertIsNone(tree)
        else:
            self.assert_tree(tree, size, log)
        short = [pos for pos in range(len(log) + 1) if is_short(size, log, pos)]
        self.assertEqual(number == 0, first_conflict(log) is not None or bool(short))

    def test_all_costs_of_short_logs(self):
        for size in range(1, 5):
            for length in range(4):
                for nodes in itertools.product(range(size), repeat=length):
                    numbers = agreeing(size, nodes)
                    for costs in itertools.product(range(size + 1), repeat=length):
                        self.check_log(size, list(zip(nodes, costs)), numbers[costs])

    def test_right_and_changed_costs_of_longer_logs(self):
        source = random.Random(6)
        for size in range(1, 5):
            for turn in range(40):
                nodes = [source.randrange(size) for number in range(source.randint(4, 8))]
                numbers = agreeing(size, nodes)
                for costs in list(numbers):
                    self.check_log(size, list(zip(nodes, costs)), numbers[costs])
                    place = source.randrange(len(nodes))
                    changed = (*costs[:place], source.randint(0, 4), *costs[place + 1:])
                    self.check_log(size, list(zip(nodes, changed)), numbers[changed])

    def test_five_nodes(self):
        for nodes in [[0, 1, 2, 3, 4], [4, 2, 0, 3], [3, 3, 1, 4, 3, 0]]:
            numbers = agreeing(5, nodes)
            for costs in itertools.product(range(4), repeat=len(nodes)):
                self.check_log(5, list(zip(nodes, costs)), numbers[costs])

    def test_repeated_finds(self):
        for size in range(2, 5):
            once = count_hidden(size, [(1, 1)])
            self.assert_answer(count_hidden(size, [(1, 1)] * 60), once)
            for cost in [0, 2, 3]:
                self.check_log(size, [(1, 1), (1, cost)], 0)
                self.check_log(size, [(1, 1), (0, 0), (1, cost)], 0)
        self.check_log(4, [(1, 3), (1, 1), (1, 1)], 6)
        self.check_log(4, [(1, 3), (1, 3)], 0)
        self.check_log(4, [(1, 3), (1, 1), (1, 2)], 0)

    def test_costs_of_0(self):
        self.check_log(4, [(2, 0)], 16)
        self.check_log(4, [(2, 0), (2, 0), (2, 0)], 16)
        self.check_log(4, [(2, 0), (2, 1)], 0)
        self.check_log(4, [(2, 0), (3, 0)], 0)
        self.check_log(4, [(2, 0), (0, 3), (3, 0)], 0)
        self.check_log(1, [(0, 0)], 1)
        self.check_log(1, [(0, 1)], 0)

    def test_great_costs(self):
        for cost in [20, 21, 60, 10 ** 9, MANY]:
            for log in [[(0, cost)], [(1, 1), (0, cost)], [(1, 2), (2, 0), (0, cost), (3, 1)]]:
                self.check_log(20, log, 0)
        # All nodes but two stand, in any order, between the first one and the root, which is any other one.
        self.check_log(20, [(0, 19)], 121645100408832000)

    def test_all_nodes_found(self):
        self.check_log(3, [(0, 1), (1, 1), (2, 1)], 0)
        # A path is marked only by a find with a greater cost, so that each node hangs on the root from the start.
        self.check_log(3, [(0, 1), (1, 1), (2, 0)], 1)
        star = [(node, 1) for node in range(19)]
        self.check_log(20, star + [(19, 0)], 1)
        self.check_log(20, star, 1)
        self.check_log(20, star + [(19, 1)], 0)

    def test_long_logs_of_great_trees(self):
        source = random.Random(7)
        for turn in range(100):
            size = source.randint(15, 20)
            tree = random_tree(source, size, source.choice([1, 2, 5, 20]))
            log = log_of(tree, [source.randrange(size) for number in range(60)])
            self.assertGreater(count_hidden(size, log), 0)
            self.assert_tree(find_hidden(size, log), size, log)
            self.assertEqual(len(log), 60)

    def test_each_find_splits_the_trees(self):
        source = random.Random(8)
        for turn in range(30):
            tree = random_tree(source, 20, 3)
            log = log_of(tree, source.sample(range(20), source.randint(0, 12)))
            for node in source.sample(range(20), 4):
                rows = [(cost, count_hidden(20, log + [(node, cost)])) for cost in range(25)]
                self.assert_answer(sum(number for cost, number in rows), count_hidden(20, log))
                self.assert_answer(next_costs(20, log, node), [row for row in rows if row[1] > 0])


class NextCostsTest(ForestCase):
    def test_example(self):
        self.assert_answer(next_costs(3, [], 0), [(0, 3), (1, 4), (2, 2)])

    def test_all_short_logs(self):
        for size in range(1, 5):
            for length in range(3):
                for nodes in itertools.product(range(size), repeat=length + 1):
                    numbers = agreeing(size, nodes)
                    for costs in itertools.product(range(size), repeat=length):
                        wanted = [(cost, numbers[(*costs, cost)]) for cost in range(size) if numbers[(*costs, cost)]]
                        self.assert_answer(next_costs(size, list(zip(nodes, costs)), nodes[-1]), wanted)

    def test_no_tree_agrees(self):
        for log in [[(0, 3)], [(0, 0), (1, 0)], [(0, 1), (0, 2)], [(0, 1), (1, 1), (2, 1)]]:
            for node in range(3):
                self.assert_answer(next_costs(3, log, node), [])

    def test_node_that_was_found(self):
        self.assert_answer(next_costs(3, [(0, 2)], 0), [(1, 2)])
        self.assert_answer(next_costs(3, [(0, 0)], 0), [(0, 3)])

    def test_full_log(self):
        log = [(0, 2), *[(0, 1)] * 59]
        self.assert_answer(next_costs(3, log, 1), next_costs(3, [(0, 2)], 1))
        self.assert_answer(next_costs(3, log, 1), [(0, 1), (1, 1)])
        self.assert_error(TooLong, "limit", 60, next_costs, 3, [*log, (0, 1)], 1)

    def test_no_node_last(self):
        for bad in [3, -1, MANY, -MANY]:
            self.assert_error(NoNode, "node", bad, next_costs, 3, [(0, 2)], bad)
            # Also if no tree agrees with the log.
            self.assert_error(NoNode, "node", bad, next_costs, 3, [(0, 3)], bad)
        for bad in [0, 1, -1]:
            self.assert_error(NoNode, "node", bad, next_costs, 0, [], bad)


class LogRulesTest(ForestCase):
    def test_too_many_nodes_first(self):
        for call in log_calls():
            for size in [21, 22, 40, MANY]:
                for log in [[], [(0, 1)], [(-1, -1)], [(99, 0)] * 61]:
                    self.assert_error(TooManyNodes, "limit", 20, call, size, log)

    def test_too_long_second(self):
        for call in log_calls():
            for size in [0, 1, 20]:
                for log in [[(0, 1)] * 61, [(-1, -1)] * 61, [(99, 0)] * 200]:
                    self.assert_error(TooLong, "limit", 60, call, size, log)

    def test_entry_by_entry(self):
        for call in log_calls():
            for bad in [4, -1, -4, MANY, -MANY]:
                for log in [[(bad, 1)], [(bad, -1)], [(0, 1), (bad, 1), (99, 1)], [(1, 1), (bad, 0), (0, -1)],
                            [(0, 1), (0, 2), (bad, 1)], [(0, 1)] * 59 + [(bad, 1)]]:
                    self.assert_error(NoNode, "node", bad, call, 4, log)
            for cost in [-1, -2, -MANY]:
                self.assert_error(BadCost, "pos", 0, call, 4, [(0, cost), (99, 1)])
                self.assert_error(BadCost, "pos", 1, call, 4, [(0, 1), (0, cost), (1, cost)])
                self.assert_error(BadCost, "pos", 2, call, 4, [(0, 0), (1, 0), (2, cost), (-1, 0)])
                self.assert_error(BadCost, "pos", 59, call, 4, [(0, 1)] * 59 + [(1, cost)])
            self.assert_error(NoNode, "node", 0, call, 0, [(0, 0)])

    def test_greatest_size_and_length(self):
        log = [(node % 20, 1 if node else 0) for node in range(60)]
        self.assert_answer(count_hidden(20, log), 0)
        self.assert_answer(count_hidden(20, [(3, 0)] * 60), 20 ** 18)

    def some_logs(self):
        yield from [[], [(0, 1)], [(0, 2), (1, 1)], [(3, 0), (0, 3), (0, 1), (1, 1)], [(0, 0), (1, 0)], [(2, 5)]]

    def test_tuple_in_place_of_a_list(self):
        for log in self.some_logs():
            self.assert_answer(count_hidden(4, tuple(log)), count_hidden(4, log))
            self.assert_answer(find_hidden(4, tuple(log)), find_hidden(4, log))
            self.assert_answer(next_costs(4, tuple(log), 1), next_costs(4, log, 1))
        for call in log_calls():
            self.assert_error(BadCost, "pos", 1, call, 4, ((0, 1), (0, -1)))
            self.assert_error(TooLong, "limit", 60, call, 4, ((0, 1),) * 61)

    def test_arguments_do_not_change_and_results_are_new(self):
        for log in self.some_logs():
            passed = list(log)
            self.assert_fresh(count_hidden, 4, passed)
            self.assert_fresh(find_hidden, 4, passed)
            self.assert_fresh(next_costs, 4, passed, 1)
            self.assertEqual(passed, log)

    def test_keywords(self):
        for log in [*self.some_logs(), [(4, 1)], [(0, -1)], [(0, 1)] * 61]:
            self.assert_keywords(count_hidden, size=4, log=log)
            self.assert_keywords(find_hidden, size=4, log=log)
            for node in [0, 1, 4]:
                self.assert_keywords(next_costs, size=4, log=log, node=node)


if __name__ == "__main__":
    unittest.main()
