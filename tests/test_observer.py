"""findforests.observer: observers of a hidden tree."""

import random
import unittest

from findforests.errors import BadCost, Contradiction, EmptyHistory, NoNode, TooLong, TooManyNodes
from findforests.logs import count_hidden, log_of, next_costs
from findforests.observer import Observer
from tests.helpers import ForestCase, costs_of, outcome, random_tree, small_trees, spoil

MANY = 10 ** 30
METHODS = ["observe", "undo", "redo", "node_count", "observed", "trees_left", "example", "forecast",
           "certain_nodes", "twin", "__len__", "__eq__", "__repr__", "__init__"]


class Model:
    """What an observer over few nodes must do, with all trees at hand."""

    def __init__(self, size):
        self.size = size
        self.log = []
        self.undone = []

    def twin(self):
        double = Model(self.size)
        double.log = list(self.log)
        double.undone = list(self.undone)
        return double

    def trees(self, log):
        nodes = [node for node, cost in log]
        costs = tuple(cost for node, cost in log)
        return [tree for tree in small_trees(self.size) if costs_of(tree, nodes) == costs]

    def forecast(self, node):
        nodes = [found for found, cost in self.log] + [node]
        last = [costs_of(tree, nodes)[-1] for tree in self.trees(self.log)]
        return [(cost, last.count(cost)) for cost in sorted(set(last))]


class ObserverCase(ForestCase):
    def check_state(self, observer, model):
        """All queries against the model, twice, since they must not change the state."""
        for turn in range(2):
            self.assert_answer(observer.node_count(), model.size)
            self.assert_answer(observer.observed(), model.log)
            self.assert_answer(len(observer), len(model.log))
            self.assert_answer(repr(observer), f"Observer({model.size} nodes, {len(model.log)} finds)")
            trees = model.trees(model.log)
            self.assert_answer(observer.trees_left(), len(trees))
            self.assertIn(observer.example(), trees)
            self.assertIsInstance(observer.example(), tuple)
            rows = [model.forecast(node) for node in range(model.size)]
            self.assert_answer([observer.forecast(node) for node in range(model.size)], rows)
            self.assert_answer(observer.certain_nodes(), [node for node, row in enumerate(rows) if len(row) == 1])

    def observe_both(self, observer, model, node, cost):
        """Observes with both, and checks the answer or the error."""
        number = len(model.trees([*model.log, (node, cost)]))
        if number == 0:
            self.assert_error(Contradiction, "pos", len(model.log), observer.observe, node, cost=cost)
        else:
            self.assert_answer(observer.observe(node, cost=cost), number)
            model.log.append((node, cost))
            model.undone = []

    def move_both(self, observer, model, word):
        """Undoes or redoes with both."""
        source, target = (model.log, model.undone) if word == "undo" else (model.undone, model.log)
        call = observer.undo if word == "undo" else observer.redo
        if source:
            self.assertIsNone(call())
            target.append(source.pop())
        else:
            self.assert_empty(call)

    def assert_empty(self, call):
        with self.assertRaises(EmptyHistory) as caught:
            call()
        self.assertIs(caught.exception.__class__, EmptyHistory)
        self.assertEqual(caught.exception.tag, "EmptyHistory")


class ExampleTest(ObserverCase):
    def test_constructor(self):
        self.assert_answer(repr(Observer(3)), "Observer(3 nodes, 0 finds)")

    def test_observe(self):
        self.assert_answer(Observer(3).observe(0, cost=1), 4)
        self.assert_error(Contradiction, "pos", 0, Observer(3).observe, 0, cost=3)

    def test_undo_and_redo(self):
        self.assert_empty(Observer(1).undo)
        watcher = Observer(2)
        watcher.observe(1)
        watcher.undo()
        watcher.redo()
        self.assert_answer(len(watcher), 1)

    def test_queries(self):
        self.assert_answer(Observer(4).node_count(), 4)
        watcher = Observer(2)
        watcher.observe(1, cost=1)
        self.assert_answer(watcher.observed(), [(1, 1)])
        self.assert_answer(Observer(4).trees_left(), 64)
        self.assert_answer(watcher.example(), (0, 0))
        self.assert_answer(Observer(2).forecast(1), [(0, 1), (1, 1)])

    def test_certain_nodes_and_twin(self):
        watcher = Observer(3)
        watcher.observe(1)
        self.assert_answer(watcher.certain_nodes(), [1])
        other = Observer(2)
        self.assertIs(other.twin() == other, True)

    def test_methods_stand_in_the_class(self):
        for name in METHODS:
            self.assertIn(name, Observer.__dict__)


class ModelTest(ObserverCase):
    def test_finds_of_all_small_trees(self):
        source = random.Random(31)
        for size in range(1, 5):
            for tree in small_trees(size):
                nodes = [source.randrange(size) for number in range(6)]
                observer, model = Observer(size), Model(size)
                self.check_state(observer, model)
                for node, cost in log_of(tree, nodes):
                    self.observe_both(observer, model, node, cost)
                self.check_state(observer, model)

    def test_any_calls(self):
        source = random.Random(32)
        for turn in range(60):
            size = source.randint(1, 4)
            observer, model = Observer(size), Model(size)
            for call in range(15):
                word = source.choice(["observe", "observe", "observe", "undo", "redo"])
                if word == "observe":
                    self.observe_both(observer, model, source.randrange(size), source.randint(0, size))
                else:
                    self.move_both(observer, model, word)
                self.check_state(observer, model)

    def test_all_first_entries(self):
        for size in range(1, 5):
            for node in range(size):
                for cost in [0, 1, 2, 3, 4, 5, 20, MANY]:
                    observer, model = Observer(size), Model(size)
                    self.observe_both(observer, model, node, cost)
                    self.check_state(observer, model)

    def test_default_cost(self):
        for size in range(1, 5):
            one, other = Observer(size), Observer(size)
            self.assert_answer(one.observe(size - 1), other.observe(size - 1, cost=0))
            self.assert_answer(one.observed(), [(size - 1, 0)])
            self.assertEqual(one, other)


class ErrorTest(ObserverCase):
    def full(self):
        observer = Observer(3)
        observer.observe(0, cost=2)
        for entry in range(59):
            observer.observe(0, cost=1)
        return observer

    def assert_unchanged(self, observer, kind, field, value, call, *args, **named):
        """The error, and afterwards the same log and the same entries to redo."""
        before = (observer.twin(), redone(observer))
        self.assert_error(kind, field, value, call, *args, **named)
        self.assertEqual((observer, redone(observer)), before)

    def test_too_many_nodes(self):
        for size in [21, 22, 40, MANY]:
            self.assert_error(TooManyNodes, "limit", 20, Observer, size)
            self.assert_error(TooManyNodes, "limit", 20, Observer, size=size)
        self.assert_answer(Observer(20).node_count(), 20)

    def test_sixty_entries(self):
        observer = self.full()
        self.assert_answer(len(observer), 60)
        self.assert_answer(observer.trees_left(), 2)
        self.assert_answer(observer.forecast(1), [(0, 1), (1, 1)])
        self.assert_answer(observer.certain_nodes(), [0])
        self.assert_answer(repr(observer), "Observer(3 nodes, 60 finds)")
        # Too long comes before all other errors, and also if an entry would agree.
        for node, cost in [(0, 1), (0, 2), (99, 0), (-1, -1), (0, -1), (1, 5)]:
            self.assert_unchanged(observer, TooLong, "limit", 60, observer.observe, node, cost=cost)
        observer.undo()
        self.assert_unchanged(observer, BadCost, "pos", 59, observer.observe, 0, cost=-1)
        self.assert_unchanged(observer, Contradiction, "pos", 59, observer.observe, 0, cost=0)
        self.assert_answer(observer.observe(0, cost=1), 2)
        self.assert_unchanged(observer, TooLong, "limit", 60, observer.observe, 0, cost=1)

    def test_no_node(self):
        for size in [1, 3, 20]:
            observer = Observer(size)
            observer.observe(0)
            observer.undo()
            for bad in [size, size + 1, -1, -size, MANY, -MANY]:
                for cost in [0, 1, -1, MANY]:
                    self.assert_unchanged(observer, NoNode, "node", bad, observer.observe, bad, cost=cost)
                self.assert_unchanged(observer, NoNode, "node", bad, observer.observe, bad)
                self.assert_unchanged(observer, NoNode, "node", bad, observer.forecast, bad)

    def test_bad_cost(self):
        observer = Observer(4)
        for pos, (node, cost) in enumerate([(0, 2), (0, 1), (1, 1), (2, 1)]):
            for bad in [-1, -2, -MANY]:
                self.assert_unchanged(observer, BadCost, "pos", pos, observer.observe, 0, cost=bad)
            observer.observe(node, cost=cost)
        observer.undo()
        self.assert_unchanged(observer, BadCost, "pos", 3, observer.observe, 0, cost=-1)

    def test_contradiction(self):
        observer = Observer(4)
        self.assert_unchanged(observer, Contradiction, "pos", 0, observer.observe, 2, cost=4)
        observer.observe(2, cost=3)
        for node, cost in [(2, 0), (2, 2), (2, 3), (0, 3), (0, MANY)]:
            self.assert_unchanged(observer, Contradiction, "pos", 1, observer.observe, node, cost=cost)
        observer.observe(1)
        observer.observe(0, cost=1)
        observer.undo()
        for node, cost in [(1, 1), (0, 0), (2, 0)]:
            self.assert_unchanged(observer, Contradiction, "pos", 2, observer.observe, node, cost=cost)
        observer.redo()
        self.assert_answer(observer.observed(), [(2, 3), (1, 0), (0, 1)])

    def test_empty_history(self):
        observer = Observer(3)
        self.assert_empty(observer.undo)
        self.assert_empty(observer.redo)
        observer.observe(0, cost=1)
        self.assert_empty(observer.redo)
        observer.undo()
        self.assert_empty(observer.undo)
        observer.redo()
        self.assert_empty(observer.redo)
        self.assert_answer(observer.observed(), [(0, 1)])


def redone(observer):
    """The log with all entries that can be redone, seen through a twin."""
    double = observer.twin()
    while True:
        try:
            double.redo()
        except EmptyHistory:
            return double.observed()


class UndoTest(ObserverCase):
    def test_order(self):
        observer = Observer(4)
        entries = [(2, 3), (1, 1), (0, 1), (3, 0)]
        for node, cost in entries:
            observer.observe(node, cost=cost)
        for many in [3, 2, 1, 0]:
            self.assertIsNone(observer.undo())
            self.assert_answer(observer.observed(), entries[:many])
        for many in [1, 2, 3, 4]:
            self.assertIsNone(observer.redo())
            self.assert_answer(observer.observed(), entries[:many])

    def test_lost_behind_another_entry(self):
        observer = Observer(4)
        observer.observe(0, cost=1)
        observer.observe(1, cost=1)
        observer.undo()
        observer.undo()
        observer.observe(2, cost=2)
        self.assert_empty(observer.redo)
        self.assert_answer(observer.observed(), [(2, 2)])

    def test_lost_behind_an_equal_entry(self):
        observer = Observer(4)
        observer.observe(0, cost=1)
        observer.observe(1, cost=1)
        observer.undo()
        observer.undo()
        observer.observe(0, cost=1)
        self.assert_empty(observer.redo)

    def test_sixty_steps_back_and_forth(self):
        tree = random_tree(random.Random(33), 20, 2)
        log = log_of(tree, [node * 7 % 20 for node in range(60)])
        observer = Observer(20)
        for pos, (node, cost) in enumerate(log):
            self.assert_answer(observer.observe(node, cost=cost), count_hidden(20, log[:pos + 1]))
        for many in reversed(range(60)):
            observer.undo()
            self.assert_answer(observer.observed(), log[:many])
        for many in range(60):
            observer.redo()
            self.assert_answer(observer.observed(), log[:many + 1])
        self.assert_empty(observer.redo)
        self.assert_answer(observer.trees_left(), count_hidden(20, log))


class GreatTest(ObserverCase):
    def test_twenty_nodes(self):
        source = random.Random(34)
        for turn in range(5):
            tree = random_tree(source, 20, source.choice([1, 2, 5]))
            log = log_of(tree, [source.randrange(20) for number in range(source.choice([0, 5, 12, 60]))])
            observer = Observer(20)
            for node, cost in log:
                observer.observe(node, cost=cost)
            self.assert_answer(observer.trees_left(), count_hidden(20, log))
            self.assertEqual(log_of(observer.example(), [node for node, cost in log]), log)
            rows = [next_costs(20, log, node) for node in range(20)]
            self.assert_answer([observer.forecast(node) for node in range(20)], rows)
            self.assert_answer(observer.certain_nodes(), [node for node in range(20) if len(rows[node]) == 1])


class RulesTest(ObserverCase):
    def test_returned_lists_are_new(self):
        observer = Observer(3)
        observer.observe(0, cost=2)
        observer.observe(1, cost=1)
        observer.undo()
        for call in [observer.observed, observer.certain_nodes]:
            self.assert_fresh(call)
        self.assert_fresh(observer.forecast, 1)
        spoil(observer.observed())
        self.assert_answer(observer.observed(), [(0, 2)])
        self.assert_answer(observer.trees_left(), 2)
        observer.redo()
        self.assert_answer(observer.observed(), [(0, 2), (1, 1)])

    def test_free_choice_is_repeated(self):
        for log in [[], [(0, 2)], [(0, 1), (1, 3)], [(3, 0), (1, 2)]]:
            one, other = Observer(5), Observer(5)
            for node, cost in log:
                one.observe(node, cost=cost)
                other.observe(node, cost=cost)
            self.assert_answer(one.example(), other.example())
            self.assert_answer(one.example(), one.twin().example())

    def test_keywords(self):
        for node in [0, 2, 3, -1]:
            wanted = outcome(Observer(3).observe, [node], {"cost": 1})
            self.assertEqual(outcome(Observer(3).observe, [], {"cost": 1, "node": node}), wanted)
            self.assertEqual(outcome(Observer(3).observe, [], {"node": node}), outcome(Observer(3).observe, [node], {}))
            self.assert_keywords(Observer(3).forecast, node=node)
        self.assertEqual(Observer(size=3), Observer(3))
        with self.assertRaises(TypeError):
            Observer(3).observe(0, 1)

    def test_repr_and_length(self):
        for size in [1, 2, 3, 10, 20]:
            observer = Observer(size)
            for many in range(4):
                self.assert_answer(repr(observer), f"Observer({size} nodes, {many} finds)")
                self.assert_answer(len(observer), many)
                observer.observe(0)

    def test_equality(self):
        one, other = Observer(3), Observer(3)
        self.assertIs(one == other, True)
        self.assertIs(one != other, False)
        one.observe(0, cost=1)
        self.assertIs(one == other, False)
        self.assertIs(one != other, True)
        other.observe(1, cost=1)
        self.assertIs(one == other, False)
        other.undo()
        other.observe(0, cost=1)
        self.assertIs(one == other, True)
        # What can be redone does not count.
        other.observe(1, cost=1)
        other.undo()
        self.assertIs(one == other, True)
        self.assertIs(Observer(3) == Observer(4), False)

    def test_equality_with_other_kinds(self):
        observer = Observer(3)
        for other in [None, 3, 0, "", "Observer(3 nodes, 0 finds)", [], (), (3, []), {}, Observer, object()]:
            self.assertIs(observer == other, False)
            self.assertIs(other == observer, False)
            self.assertIs(observer != other, True)


class TwinTest(ObserverCase):
    def test_twin_has_the_entries_to_redo(self):
        observer = Observer(3)
        for node, cost in [(0, 2), (1, 1), (2, 0)]:
            observer.observe(node, cost=cost)
        observer.undo()
        observer.undo()
        double = observer.twin()
        self.assertEqual(double, observer)
        double.redo()
        double.redo()
        self.assert_answer(double.observed(), [(0, 2), (1, 1), (2, 0)])
        self.assert_answer(observer.observed(), [(0, 2)])
        self.assert_empty(double.redo)
        observer.redo()
        self.assert_answer(observer.observed(), [(0, 2), (1, 1)])

    def test_twins_go_on_alone(self):
        source = random.Random(35)
        for turn in range(20):
            size = source.randint(1, 4)
            pairs = [(Observer(size), Model(size))]
            for call in range(25):
                observer, model = source.choice(pairs)
                word = source.choice(["observe", "observe", "undo", "redo", "twin"])
                if word == "observe":
                    self.observe_both(observer, model, source.randrange(size), source.randint(0, size - 1))
                elif word == "twin":
                    pairs.append((observer.twin(), model.twin()))
                else:
                    self.move_both(observer, model, word)
                for watcher, wanted in pairs:
                    self.assert_answer(watcher.observed(), wanted.log)
            for observer, model in pairs:
                self.check_state(observer, model)
                self.assert_answer(redone(observer), model.log + model.undone[::-1])


if __name__ == "__main__":
    unittest.main()
