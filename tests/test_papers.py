"""findforests.papers: certificates for logs."""

import itertools
import random
import unittest

from findforests.errors import BadCost, NoNode, TooLong, TooManyNodes
from findforests.logs import log_of
from findforests.papers import log_paper, log_paper_holds
from tests.helpers import (
    ForestCase, agreeing, costs_of, first_conflict, is_conflict, is_short, random_tree, small_forests, small_trees,
)

MANY = 10 ** 30
OTHER_WORDS = ["", "Tree", "tree ", "conflicts", "SHORT", "short\n", "none"]
# Logs over four nodes: with a tree, with conflicts, with too few fillers, and with several of these faults.
SOME_LOGS = [
    [], [(0, 1)], [(0, 2), (1, 1)], [(3, 0), (0, 3), (0, 1), (1, 1)], [(0, 0), (1, 0)], [(2, 5)],
    [(0, 1), (0, 2), (1, 9)], [(1, 3), (1, 3), (2, 0), (3, 0)], [(0, 1), (1, 1), (2, 1), (3, 1)],
    [(0, 0), (0, 1), (1, 0)],
]


def short_logs(size, longest):
    """All logs of up to so many entries with small costs, each with the number of trees that agree."""
    for length in range(longest + 1):
        for nodes in itertools.product(range(size), repeat=length):
            numbers = agreeing(size, nodes)
            for costs in itertools.product(range(size + 1), repeat=length):
                yield list(zip(nodes, costs)), numbers[costs]


def is_agreeing_tree(size, log, row):
    """Whether a row is one of the trees over so few nodes, and its finds have the costs of the log."""
    return row in small_trees(size) and costs_of(row, [node for node, cost in log]) == tuple(cost for node, cost in log)


class PaperCase(ForestCase):
    def check_paper(self, size, log, number):
        """The certificate of a log against the number of trees that agree with it."""
        paper = log_paper(size, log)
        self.assertIsInstance(paper, tuple)
        if number > 0:
            word, tree = paper
            self.assertEqual(word, "tree")
            self.check_tree(tree, size, log)
        elif first_conflict(log) is not None:
            self.assert_answer(paper, ("conflict", first_conflict(log)))
        else:
            self.assert_answer(paper, ("short", self.shorts(size, log)[0]))
        self.assertIs(log_paper_holds(size, log, paper), True)

    def check_tree(self, tree, size, log):
        self.assertIsInstance(tree, tuple)
        self.assertEqual(len(tree), size)
        self.assertEqual(sum(tree[node] == node for node in range(size)), 1)
        self.assertEqual(costs_of(tree, [node for node, cost in log]), tuple(cost for node, cost in log))

    def shorts(self, size, log):
        return [pos for pos in range(len(log) + 1) if is_short(size, log, pos)]


class LogPaperTest(PaperCase):
    def test_examples(self):
        self.assert_answer(log_paper(2, [(0, 1), (1, 1)]), ("short", 1))
        self.assert_answer(log_paper(3, [(0, 1), (0, 2)]), ("conflict", 1))

    def test_no_nodes(self):
        self.assert_answer(log_paper(0, []), ("short", 0))

    def test_empty_log(self):
        for size in range(1, 21):
            self.check_paper(size, [], 1)

    def test_all_short_logs(self):
        for size in range(1, 5):
            for log, number in short_logs(size, 3):
                self.check_paper(size, log, number)

    def test_right_and_changed_costs_of_longer_logs(self):
        source = random.Random(21)
        for size in range(1, 5):
            for turn in range(30):
                nodes = [source.randrange(size) for number in range(source.randint(4, 9))]
                numbers = agreeing(size, nodes)
                for costs in list(numbers):
                    self.check_paper(size, list(zip(nodes, costs)), numbers[costs])
                    for change in range(3):
                        place = source.randrange(len(nodes))
                        changed = (*costs[:place], source.choice([0, 1, 2, 3, 4, 9]), *costs[place + 1:])
                        self.check_paper(size, list(zip(nodes, changed)), numbers[changed])

    def test_first_conflict_of_several(self):
        self.assert_answer(log_paper(4, [(0, 0), (1, 0), (0, 1), (2, 0)]), ("conflict", 1))
        self.assert_answer(log_paper(4, [(0, 2), (0, 2), (0, 2)]), ("conflict", 1))
        self.assert_answer(log_paper(4, [(0, 2), (0, 1), (0, 0), (0, 3)]), ("conflict", 2))

    def test_conflict_before_short(self):
        self.assert_answer(log_paper(4, [(0, 9), (1, 1), (0, 9)]), ("conflict", 2))
        self.assert_answer(log_paper(4, [(0, 9), (1, 1), (0, 1)]), ("short", 0))

    def test_least_short_index(self):
        # The find of 1 at the cost 1 is a filler for what comes before it only.
        self.assert_answer(log_paper(3, [(0, 2), (1, 1), (2, 0)]), ("tree", (1, 2, 2)))
        self.assert_answer(log_paper(3, [(1, 1), (0, 2), (2, 0)]), ("tree", (1, 2, 2)))
        self.assert_answer(log_paper(3, [(1, 1), (0, 3)]), ("short", 0))
        self.assert_answer(log_paper(4, [(1, 1), (2, 1), (0, 3), (3, 1)]), ("short", 1))

    def test_great_costs(self):
        for cost in [20, 21, 60, MANY]:
            for log in [[(0, cost)], [(1, 1), (0, cost)], [(1, 2), (2, 0), (0, cost), (3, 1)], [(0, cost), (0, cost)]]:
                self.check_paper(20, log, 0)

    def test_repeated_finds(self):
        for cost in range(4):
            for again in range(4):
                self.check_paper(4, [(1, cost), (1, again)], agreeing(4, [1, 1])[cost, again])
        self.check_paper(4, [(1, 3), *[(1, 1)] * 59], 1)
        self.check_paper(4, [*[(1, 0)] * 59, (1, 1)], 0)

    def test_long_logs_of_great_trees(self):
        source = random.Random(22)
        for turn in range(60):
            size = source.randint(12, 20)
            tree = random_tree(source, size, source.choice([1, 2, 5, 20]))
            log = log_of(tree, [source.randrange(size) for number in range(60)])
            self.check_paper(size, log, 1)

    def test_changed_logs_of_great_trees(self):
        source = random.Random(23)
        kinds = {}
        for turn in range(200):
            size = source.randint(12, 20)
            tree = random_tree(source, size, source.choice([1, 2, 5]))
            log = log_of(tree, [source.randrange(size) for number in range(source.randint(1, 60))])
            place = source.randrange(min(len(log), source.choice([1, 5, 60])))
            log[place] = (log[place][0], source.choice([0, 1, 2, size // 2, size - 2, size]))
            word, fact = log_paper(size, log)
            kinds[word] = kinds.get(word, 0) + 1
            self.assertIs(log_paper_holds(size, log, (word, fact)), True)
            failing = first_conflict(log) is not None or bool(self.shorts(size, log))
            self.check_paper(size, log, 0 if failing else 1)
        self.assertEqual(sorted(kinds), ["conflict", "short", "tree"])
        self.assertGreater(min(kinds.values()), 10)


class HoldsTest(PaperCase):
    def test_example(self):
        answers = [log_paper_holds(2, [(0, 1)], ("tree", (1, 1))), log_paper_holds(2, [(0, 1)], ("short", 0))]
        self.assert_answer(answers, [True, False])

    def test_trees_and_other_rows(self):
        for size in range(1, 4):
            rows = [row for length in range(size + 2) for row in itertools.product(range(-1, 4), repeat=length)]
            for log, number in short_logs(size, 2):
                for row in rows:
                    self.assertIs(log_paper_holds(size, log, ("tree", row)), is_agreeing_tree(size, log, row))

    def test_trees_over_four_nodes(self):
        source = random.Random(24)
        forests = small_forests(4)
        trees = small_trees(4)
        for turn in range(100):
            nodes = [source.randrange(4) for number in range(source.randint(0, 5))]
            log = log_of(source.choice(trees), nodes)
            costs = tuple(cost for node, cost in log)
            for row in forests:
                wanted = row in trees and costs_of(row, nodes) == costs
                self.assertIs(log_paper_holds(4, log, ("tree", row)), wanted)

    def test_several_roots_with_the_same_costs(self):
        self.assertIs(log_paper_holds(3, [(1, 1)], ("tree", (0, 0, 2))), False)
        self.assertIs(log_paper_holds(3, [], ("tree", (0, 1, 2))), False)

    def test_rows_that_are_no_trees(self):
        for row in [(), (0,), (0, 0), (0, 0, 0, 0), (1, 0, 0), (0, 2, 1), (0, 3, 0), (0, -3, 0), (0, MANY, 0),
                    (0,) * 40, (0,) * 41, (0,) * 60]:
            self.assertIs(log_paper_holds(3, [], ("tree", row)), False)
        self.assertIs(log_paper_holds(0, [], ("tree", ())), False)

    def test_every_index(self):
        for size in range(1, 5):
            for log, number in short_logs(size, 2):
                self.check_indexes(size, log)

    def test_every_index_of_other_logs(self):
        for log in SOME_LOGS:
            self.check_indexes(4, log)
        source = random.Random(25)
        for turn in range(40):
            size = source.randint(1, 20)
            log = [(source.randrange(size), source.choice([0, 1, 1, 2, 3, size])) for entry in range(turn)]
            self.check_indexes(size, log)

    def check_indexes(self, size, log):
        """Both kinds of certificates with an index, from below 0 to beyond the length."""
        for pos in [*range(-len(log) - 2, len(log) + 3), MANY, -MANY]:
            conflict = 0 <= pos < len(log) and is_conflict(log, pos)
            self.assertIs(log_paper_holds(size, log, ("conflict", pos)), conflict)
            short = 0 <= pos <= len(log) and is_short(size, log, pos)
            self.assertIs(log_paper_holds(size, log, ("short", pos)), short)

    def test_short_beside_a_conflict(self):
        log = [(0, 9), (0, 9)]
        self.assertIs(log_paper_holds(4, log, ("short", 0)), True)
        self.assertIs(log_paper_holds(4, log, ("conflict", 1)), True)
        self.assertIs(log_paper_holds(4, log, ("short", 1)), False)

    def test_not_only_the_first_index(self):
        log = [(0, 9), (1, 9), (0, 0), (1, 0)]
        for pos in [2, 3]:
            self.assertIs(log_paper_holds(4, log, ("conflict", pos)), True)
        for pos in [0, 1]:
            self.assertIs(log_paper_holds(4, log, ("short", pos)), True)

    def test_at_the_length(self):
        # All nodes are first finds, so that none is left for the root.
        log = [(0, 1), (1, 1)]
        self.assert_answer([log_paper_holds(2, log, ("short", pos)) for pos in range(4)], [False, True, True, False])
        self.assertIs(log_paper_holds(0, [], ("short", 0)), True)
        self.assertIs(log_paper_holds(0, [], ("short", 1)), False)
        self.assertIs(log_paper_holds(1, [], ("short", 0)), False)

    def test_other_words(self):
        for log in SOME_LOGS:
            for word in OTHER_WORDS:
                for pos in range(-1, 6):
                    self.assertIs(log_paper_holds(4, log, (word, pos)), False)


class PaperRulesTest(ForestCase):
    def calls(self):
        """Both functions as functions of size and log, with papers that would hold, fail or mean nothing."""
        yield log_paper
        for paper in [("tree", (0,)), ("conflict", 0), ("short", -1), ("other", 5)]:
            yield lambda size, log, paper=paper: log_paper_holds(size, log, paper)

    def test_too_many_nodes_first(self):
        for call in self.calls():
            for size in [21, 40, MANY]:
                for log in [[], [(-1, -1)], [(99, 0)] * 61]:
                    self.assert_error(TooManyNodes, "limit", 20, call, size, log)

    def test_too_long_second(self):
        for call in self.calls():
            for log in [[(0, 1)] * 61, [(-1, -1)] * 61, ((99, 0),) * 200]:
                self.assert_error(TooLong, "limit", 60, call, 20, log)

    def test_entry_by_entry(self):
        for call in self.calls():
            for bad in [4, -1, MANY, -MANY]:
                for log in [[(bad, 1)], [(bad, -1)], [(0, 1), (bad, 1), (99, 1)], [(0, 0), (1, 0), (bad, 0), (0, -1)]]:
                    self.assert_error(NoNode, "node", bad, call, 4, log)
            self.assert_error(BadCost, "pos", 0, call, 4, [(0, -1), (99, 1)])
            self.assert_error(BadCost, "pos", 1, call, 4, [(0, 1), (0, -MANY), (1, -1)])
            self.assert_error(BadCost, "pos", 59, call, 4, [(0, 1)] * 59 + [(1, -1)])
            self.assert_error(NoNode, "node", 0, call, 0, [(0, 0)])

    def test_tuple_in_place_of_a_list(self):
        for log in SOME_LOGS:
            paper = log_paper(4, log)
            self.assert_answer(log_paper(4, tuple(log)), paper)
            self.assertIs(log_paper_holds(4, tuple(log), paper), True)
            for pos in range(-1, 6):
                for word in ["conflict", "short"]:
                    wanted = log_paper_holds(4, log, (word, pos))
                    self.assertIs(log_paper_holds(4, tuple(log), (word, pos)), wanted)

    def test_arguments_do_not_change(self):
        for log in SOME_LOGS:
            passed = list(log)
            self.assert_fresh(log_paper, 4, passed)
            for paper in [log_paper(4, log), ("tree", (0, 0, 0, 0)), ("conflict", 1), ("short", 0)]:
                self.assert_fresh(log_paper_holds, 4, passed, paper)
            self.assertEqual(passed, log)

    def test_keywords(self):
        for log in [*SOME_LOGS, [(4, 1)], [(0, -1)], [(0, 1)] * 61]:
            self.assert_keywords(log_paper, size=4, log=log)
            for paper in [("tree", (0, 0, 0, 0)), ("conflict", 1), ("short", 0), ("", 0)]:
                self.assert_keywords(log_paper_holds, size=4, log=log, paper=paper)


if __name__ == "__main__":
    unittest.main()
