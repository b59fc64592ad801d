"""findforests.means: mean and greatest total costs."""

import itertools
import random
import unittest
from fractions import Fraction

from findforests import means
from findforests.errors import BadCount, BadWeight, NoNode
from findforests.finds import find
from findforests.means import mean_total, most_total
from tests.helpers import ForestCase, costs_of, nodes_above, outcome, random_tree, small_forests

MANY = 10 ** 30
CHAIN = tuple(max(0, node - 1) for node in range(40))
STAR = (0,) * 40
BAD_TIMES = [-1, 21, 22, -MANY, MANY]


def random_forest(source, size, reach):
    """A forest with some roots: a random tree from which some nodes are cut off."""
    tree = random_tree(source, size, reach)
    return tuple(node if source.randrange(6) == 0 else parent for node, parent in enumerate(tree))


def mean_of_sequences(forest, times, weights):
    """The mean total cost by its definition: the sum over all sequences of the probability times the cost."""
    whole = sum(weights.get(node, 1) for node in range(len(forest)))
    mean = Fraction(0)
    for nodes in itertools.product(range(len(forest)), repeat=times):
        chance = Fraction(1)
        for node in nodes:
            chance *= Fraction(weights.get(node, 1), whole)
        mean += chance * sum(costs_of(forest, nodes))
    return mean


def mean_by_steps(forest, times, weights, known):
    """The mean total cost by the first find and what comes behind it, for more finds than can be listed."""
    if times == 0:
        return Fraction(0)
    if (forest, times) not in known:
        whole = sum(weights.get(node, 1) for node in range(len(forest)))
        mean = Fraction(0)
        for node in range(len(forest)):
            after, cost = find(forest, node)
            mean += Fraction(weights.get(node, 1), whole) * (cost + mean_by_steps(after, times - 1, weights, known))
        known[forest, times] = mean
    return known[forest, times]


def mean_by_nodes(forest, times, weights):
    """The mean total cost as the document states the total cost, node by node."""
    size = len(forest)
    whole = sum(weights.get(node, 1) for node in range(size))
    mean = Fraction(0)
    for node in range(size):
        own = Fraction(weights.get(node, 1), whole)
        if forest[node] != node:
            mean += times * own
        if len(nodes_above(forest, node)) >= 2:
            below = sum(weights.get(low, 1) for low in range(size) if node in nodes_above(forest, low))
            mean += 1 - (1 - own - Fraction(below, whole)) ** times
    return mean


def most_by_steps(forest, times, known):
    """The greatest total cost by the first find and what comes behind it."""
    if times == 0 or not forest:
        return 0
    if (forest, times) not in known:
        steps = [find(forest, node) for node in range(len(forest))]
        known[forest, times] = max(cost + most_by_steps(after, times - 1, known) for after, cost in steps)
    return known[forest, times]


class MeanTest(ForestCase):
    def check_mean(self, forest, times, weights, mean):
        wanted = (mean.numerator, mean.denominator)
        self.assert_answer(mean_total(forest, times, weights=weights), wanted)
        if not weights:
            self.assert_answer(mean_total(forest, times), wanted)
            self.assert_answer(mean_total(forest, times, weights=None), wanted)

    def test_examples(self):
        self.assert_answer(mean_total((0, 0, 1), 1), (1, 1))
        self.assert_answer(mean_total((0, 0, 1), 2, weights={2: 2}), (9, 4))

    def test_limits(self):
        self.assert_answer(means.MAX_WEIGHT, 1000)
        self.assert_answer(means.MAX_TIMES, 20)

    def test_all_small_forests_without_weights(self):
        for size in range(1, 5):
            for forest in small_forests(size):
                for times in range(4):
                    self.check_mean(forest, times, {}, mean_of_sequences(forest, times, {}))

    def test_four_finds(self):
        for forest in small_forests(3):
            for weights in [{}, {1: 3}, {0: 2, 1: 5, 2: 7}]:
                self.check_mean(forest, 4, weights, mean_of_sequences(forest, 4, weights))

    def test_all_small_forests_with_weights(self):
        source = random.Random(41)
        for size in range(1, 5):
            for forest in small_forests(size):
                # Some nodes are left out.
                nodes = [node for node in range(size) if source.randrange(3)]
                weights = {node: source.choice([1, 2, 3, 6, 10, 999, 1000]) for node in reversed(nodes)}
                for times in range(4):
                    self.check_mean(forest, times, weights, mean_of_sequences(forest, times, weights))

    def test_many_finds(self):
        source = random.Random(42)
        for forest in small_forests(4):
            weights = {node: source.choice([1, 2, 1000]) for node in range(4) if source.randrange(2)}
            known = {}
            for times in [5, 19, 20]:
                self.check_mean(forest, times, weights, mean_by_steps(forest, times, weights, known))

    def test_forty_nodes(self):
        source = random.Random(43)
        forests = [CHAIN, STAR, tuple(range(40)), *[random_forest(source, 40, reach) for reach in [1, 2, 3, 10, 40]]]
        for forest in forests:
            for weights in [{}, {node: 1000 for node in range(40)}, {39: 1000}, {node: node + 1 for node in range(20)}]:
                for times in [0, 1, 7, 20]:
                    self.check_mean(forest, times, weights, mean_by_nodes(forest, times, weights))

    def test_no_finds(self):
        for forest in [(0,), (0, 0, 1), CHAIN]:
            self.assert_answer(mean_total(forest, 0), (0, 1))
            self.assert_answer(mean_total(forest, 0, weights={0: 1000}), (0, 1))

    def test_no_nodes(self):
        for times in range(21):
            self.assert_answer(mean_total((), times), (0, 1))
            self.assert_answer(mean_total((), times, weights={}), (0, 1))

    def test_roots_only(self):
        for size in [1, 2, 40]:
            self.assert_answer(mean_total(tuple(range(size)), 20), (0, 1))

    def test_equal_weights(self):
        for weight in [1, 7, 1000]:
            weights = {node: weight for node in range(4)}
            for forest in small_forests(4):
                self.assert_answer(mean_total(forest, 5, weights=weights), mean_total(forest, 5))


class MeanErrorTest(ForestCase):
    def test_bad_count_first(self):
        for times in BAD_TIMES:
            for forest in [(), (0,), (0, 0, 1)]:
                for weights in [None, {}, {0: 1}, {5: 1}, {0: 0}, {-1: 0}]:
                    self.assert_error(BadCount, "count", times, mean_total, forest, times, weights=weights)
                self.assert_error(BadCount, "count", times, mean_total, forest, times)

    def test_no_node_second(self):
        for times in [0, 3, 20]:
            self.assert_error(NoNode, "node", 3, mean_total, (0, 0, 1), times, weights={3: 1})
            self.assert_error(NoNode, "node", -1, mean_total, (0, 0, 1), times, weights={7: 0, 3: 1, -1: 5, 0: 0})
            self.assert_error(NoNode, "node", -3, mean_total, (0, 0, 1), times, weights={-1: 5, -3: 1, 9: 1})
            self.assert_error(NoNode, "node", 3, mean_total, (0, 0, 1), times, weights={MANY: 5, 3: 1, 0: 0, 1: 1001})
            self.assert_error(NoNode, "node", 0, mean_total, (), times, weights={1: 1, 0: 1})

    def test_bad_weight_last(self):
        for times in [0, 3, 20]:
            for bad in [0, -1, 1001, MANY, -MANY]:
                self.assert_error(BadWeight, "node", 1, mean_total, (0, 0, 1), times, weights={1: bad})
                self.assert_error(BadWeight, "node", 0, mean_total, (0, 0, 1), times, weights={2: bad, 1: 1, 0: bad})
                self.assert_error(BadWeight, "node", 1, mean_total, (0, 0, 1), times, weights={2: bad, 1: bad, 0: 1})
        for good in [1, 1000]:
            self.assert_answer(mean_total((0, 0), 1, weights={1: good, 0: good}), (1, 2))

    def test_weights_do_not_change(self):
        for weights in [{}, {2: 2}, {2: 1000, 0: 3}, {2: 0, 0: 3}, {5: 1}]:
            passed = dict(weights)
            for times in [0, 2, 21]:
                outcome(mean_total, [(0, 0, 1), times], {"weights": passed})
                self.assertEqual(list(passed.items()), list(weights.items()))

    def test_keywords(self):
        for times in [0, 2, 20, 21]:
            self.assert_keywords(mean_total, forest=(0, 0, 1), times=times)
            for weights in [None, {}, {2: 2}, {3: 1}, {1: 0}]:
                wanted = outcome(mean_total, [(0, 0, 1), times], {"weights": weights})
                for named in [{"weights": weights, "times": times, "forest": (0, 0, 1)},
                              {"forest": (0, 0, 1), "times": times, "weights": weights}]:
                    self.assertEqual(outcome(mean_total, [], named), wanted)
        with self.assertRaises(TypeError):
            mean_total((0, 0, 1), 2, {2: 2})


class MostTest(ForestCase):
    def test_example(self):
        self.assert_answer(most_total((0, 0, 1, 2, 1), 2), 5)

    def test_all_lists_of_finds(self):
        for size in range(1, 5):
            for forest in small_forests(size):
                for times in range(4):
                    lists = itertools.product(range(size), repeat=times)
                    self.assert_answer(most_total(forest, times), max(sum(costs_of(forest, row)) for row in lists))

    def test_five_nodes(self):
        # The order of the finds does not matter.
        for forest in small_forests(5):
            for times in range(4):
                lists = itertools.combinations_with_replacement(range(5), times)
                self.assert_answer(most_total(forest, times), max(sum(costs_of(forest, row)) for row in lists))

    def test_many_finds(self):
        for forest in small_forests(4):
            known = {}
            for times in [4, 5, 19, 20]:
                self.assert_answer(most_total(forest, times), most_by_steps(forest, times, known))

    def test_greater_forests(self):
        source = random.Random(44)
        for turn in range(40):
            forest = random_forest(source, source.randint(6, 10), source.choice([1, 2, 3, 10]))
            known = {}
            for times in range(1, 5):
                self.assert_answer(most_total(forest, times), most_by_steps(forest, times, known))

    def test_forty_nodes(self):
        self.assert_answer([most_total(CHAIN, times) for times in [0, 1, 2, 20]], [0, 39, 40, 58])
        self.assert_answer([most_total(STAR, times) for times in [0, 1, 2, 20]], [0, 1, 2, 20])
        self.assert_answer(most_total(tuple(range(40)), 20), 0)
        # Thirteen chains of three nodes below one root: the first finds cost 3 each, the others 1 each.
        broom = (0, *[node - 1 if node % 3 != 1 else 0 for node in range(1, 40)])
        self.assert_answer([most_total(broom, times) for times in [12, 13, 14, 20]], [36, 39, 40, 46])

    def test_no_nodes(self):
        for times in range(21):
            self.assert_answer(most_total((), times), 0)

    def test_bad_count(self):
        for times in BAD_TIMES:
            for forest in [(), (0,), (0, 0, 1), CHAIN]:
                self.assert_error(BadCount, "count", times, most_total, forest, times)

    def test_keywords(self):
        for times in [0, 3, 20, 21, -1]:
            self.assert_keywords(most_total, forest=(0, 0, 1, 2, 1), times=times)


if __name__ == "__main__":
    unittest.main()
