"""findforests.store: commands, steps and watches of stores."""

import itertools
import random
import unittest

from findforests import store as store_module
from findforests.errors import (
    BadCommand, BadCount, BadName, BadParent, BadStep, Cycle, EmptyHistory, NameTaken, NoForest, NoNode, NotRoot, NoWatch,
    NoWay, RootsDiffer, SameRoot, SizesDiffer, TooLong, TooManyForests, TooManyNodes, TooManyWatches,
)
from findforests.finds import find, link, total_cost, unite
from findforests.forests import depth_of, root_of
from findforests.histories import run_history
from findforests.store import Store, is_name
from findforests.ways import flattened, flattening_finds, needed_finds
from tests.helpers import ForestCase, outcome, random_tree, small_forests, spoil, store_with

MANY = 10 ** 30
CHAIN = tuple(max(0, node - 1) for node in range(40))
NAMES = ["a", "b", "c", "d", "e", "f"]
GOOD_NAMES = ["a", "z", "oak", "abcdef", "zzzzzz", "none"]
BAD_NAMES = ["", "Oak", "oaK", "abcdefg", "oak1", "oak ", " oak", "o k", "oak\n", "\n", "-", "`", "{", "a" * 4000]
LENGTHS = {"new": 3, "drop": 2, "copy": 3, "swap": 3, "find": 3, "link": 4, "unite": 4, "run": 3, "flatten": 2, "grow": 3}
METHODS = ["apply", "apply_all", "undo", "redo", "names", "forest_of", "total_cost", "steps", "distance", "watch",
           "unwatch", "watched", "news", "clone", "__len__", "__eq__", "__repr__", "__init__"]


def full_store():
    return store_with(**{name: (0, 0) for name in NAMES})


def view(store):
    """All that the queries of a store tell, as something that can be compared."""
    forests = [(name, store.forest_of(name)) for name in store.names()]
    return repr((forests, store.total_cost(), store.steps(), store.watched(), len(store), store))


def next_number(double):
    """The number that the next watch of a clone has."""
    for row in double.watched():
        double.unwatch(row[0])
    return double.watch("oak", 0)


def deep_view(store):
    """The same behind every undo and every redo, the news, and the next number of a watch, seen through clones."""
    rows = [view(store), repr(store.clone().news()), next_number(store.clone())]
    for word in ["undo", "redo"]:
        double = store.clone()
        while double.steps()[word == "redo"]:
            getattr(double, word)()
            rows.append(view(double))
    return rows


class StoreCase(ForestCase):
    def assert_unchanged(self, store, kind, field, value, call, *args, **named):
        """The error, and the same store behind it."""
        before = deep_view(store)
        self.assert_error(kind, field, value, call, *args, **named)
        self.assertEqual(deep_view(store), before)

    def assert_refused(self, store, kind, field, value, command):
        """The error of a command by itself, in a batch of its own, and behind a command that could be applied."""
        self.assert_unchanged(store, kind, field, value, store.apply, command)
        self.assert_unchanged(store, kind, field, value, store.apply_all, [command])
        self.assert_unchanged(store, kind, field, value, store.apply_all, (command, command))

    def assert_empty(self, store, call):
        before = deep_view(store)
        with self.assertRaises(EmptyHistory) as caught:
            call()
        self.assertIs(caught.exception.__class__, EmptyHistory)
        self.assertEqual(caught.exception.tag, "EmptyHistory")
        self.assertEqual(deep_view(store), before)


class NameTest(StoreCase):
    def test_example(self):
        self.assert_answer([is_name("oak"), is_name("Oak"), is_name("")], [True, False, False])

    def test_names(self):
        for text in GOOD_NAMES:
            self.assertIs(is_name(text), True)
        for text in BAD_NAMES:
            self.assertIs(is_name(text), False)

    def test_every_character(self):
        for code in [10, *range(32, 127)]:
            letter = chr(code)
            wanted = letter in "abcdefghijklmnopqrstuvwxyz"
            self.assertIs(is_name(letter), wanted)
            self.assertIs(is_name("a" + letter + "a"), wanted)

    def test_keywords(self):
        for text in ["oak", ""]:
            self.assert_keywords(is_name, text=text)

    def test_limits(self):
        self.assert_answer([store_module.MAX_FORESTS, store_module.MAX_WATCHES], [6, 6])


class ExampleTest(StoreCase):
    def test_commands(self):
        self.assert_answer(repr(Store()), "Store(0 forests, 0 nodes)")
        store = Store()
        self.assert_answer(store.apply(("new", "oak", (0, 0, 1))), 0)
        self.assert_answer(store.apply(("find", "oak", 2)), 2)
        self.assert_error(NoForest, "name", "oak", Store().apply, ("drop", "oak"))

    def test_batches(self):
        self.assert_answer(Store().apply_all([("new", "oak", (0, 0, 1, 1)), ("flatten", "oak")]), [0, 4])
        self.assert_error(BadCommand, "word", "plant", Store().apply_all, [("new", "oak", ()), ("plant", "oak")])
        store = Store()
        store.apply_all([("new", "oak", (0, 0)), ("grow", "oak", 2), ("link", "oak", 2, 0)])
        self.assert_answer(store.forest_of("oak"), (0, 0, 0, 3))
        store = Store()
        store.apply_all([("new", "oak", (0, 0, 1)), ("find", "oak", 2), ("unite", "oak", 1, 2)])
        self.assert_answer(store.total_cost(), 4)
        store = Store()
        store.apply_all([("new", "oak", ()), ("copy", "oak", "elm")])
        self.assert_answer(store.names(), ["elm", "oak"])

    def test_steps(self):
        self.assert_empty(Store(), Store().undo)
        store = store_with(oak=(0,))
        store.undo()
        store.redo()
        self.assert_answer(store.names(), ["oak"])
        store = Store()
        store.apply_all([])
        store.undo()
        self.assert_answer(store.steps(), (0, 1))

    def test_distance_and_clone(self):
        store = store_with(oak=(0, 0, 1, 1), elm=(0, 0, 0, 0))
        self.assert_answer(store.distance("oak", "elm"), 2)
        self.assertIs(store.clone() == store, True)

    def test_watches(self):
        store = Store()
        self.assert_answer([store.watch("oak", 1), store.watch("oak", 1)], [1, 2])
        self.assert_error(NoWatch, "number", 1, Store().unwatch, 1)
        store = store_with(oak=(0, 0, 1))
        store.watch("oak", 2)
        self.assert_answer(store.watched(), [(1, "oak", 2, (0, 2))])
        store.apply(("find", "oak", 2))
        self.assert_answer([store.news(), store.news()], [[(1, (0, 1))], []])

    def test_methods_stand_in_the_class(self):
        for name in METHODS:
            self.assertIn(name, Store.__dict__)


class NewTest(StoreCase):
    def test_adds_a_forest(self):
        for forest in [(), (0,), (1, 1), CHAIN]:
            for name in GOOD_NAMES:
                store = Store()
                self.assert_answer(store.apply(("new", name, forest)), 0)
                self.assert_answer(store.forest_of(name), forest)
                self.assert_answer(store.names(), [name])

    def test_keeps_a_tuple(self):
        parents = [0, 0, 1]
        store = Store()
        self.assert_answer(store.apply(("new", "oak", parents)), 0)
        self.assertEqual(parents, [0, 0, 1])
        parents[2] = 0
        self.assert_answer(store.forest_of("oak"), (0, 0, 1))
        store.apply_all([("new", "elm", [])])
        self.assert_answer(store.forest_of("elm"), ())

    def test_bad_name_first(self):
        for store in [Store(), full_store()]:
            for name in BAD_NAMES:
                for parents in [(), (0,), (1, 0), (5,), [-1], (0,) * 41]:
                    self.assert_refused(store, BadName, "name", name, ("new", name, parents))

    def test_name_taken_second(self):
        for parents in [(), (0,), (1, 0), (5,), (0,) * 41]:
            self.assert_refused(full_store(), NameTaken, "name", "c", ("new", "c", parents))
            self.assert_refused(store_with(oak=()), NameTaken, "name", "oak", ("new", "oak", parents))

    def test_too_many_forests_third(self):
        for parents in [(), (0,), (1, 0), [5], (0,) * 41]:
            self.assert_refused(full_store(), TooManyForests, "limit", 6, ("new", "oak", parents))

    def test_errors_of_check_forest_last(self):
        store = store_with(oak=(0,))
        for kind, field, value, parents in [
            (TooManyNodes, "limit", 40, (0,) * 41), (TooManyNodes, "limit", 40, [99] * 41),
            (BadParent, "node", 1, (0, 2)), (BadParent, "node", 0, [-1, 0]), (BadParent, "node", 2, (1, 0, MANY)),
            (Cycle, "node", 0, (1, 0)), (Cycle, "node", 1, [0, 2, 1, 1]),
        ]:
            self.assert_refused(store, kind, field, value, ("new", "elm", parents))

    def test_six_forests(self):
        store = full_store()
        self.assert_answer(len(store), 6)
        store.apply(("drop", "c"))
        self.assert_answer(store.apply(("new", "oak", (0,))), 0)
        self.assert_answer(store.names(), ["a", "b", "d", "e", "f", "oak"])


class NameCommandTest(StoreCase):
    """drop, copy and swap."""

    def test_drop(self):
        store = store_with(oak=(0, 0), elm=(0,))
        self.assert_answer(store.apply(("drop", "oak")), 0)
        self.assert_answer(store.names(), ["elm"])
        self.assert_refused(store, NoForest, "name", "oak", ("drop", "oak"))
        for name in BAD_NAMES:
            self.assert_refused(store, NoForest, "name", name, ("drop", name))

    def test_copy(self):
        store = store_with(oak=(0, 0, 1))
        self.assert_answer(store.apply(("copy", "oak", "elm")), 0)
        self.assert_answer(store.forest_of("elm"), (0, 0, 1))
        store.apply(("find", "oak", 2))
        self.assert_answer([store.forest_of("oak"), store.forest_of("elm")], [(0, 0, 0), (0, 0, 1)])

    def test_errors_of_copy(self):
        for store in [Store(), store_with(oak=()), full_store()]:
            for other in ["oak", "", "Bad", "elm", "a"]:
                self.assert_refused(store, NoForest, "name", "ash", ("copy", "ash", other))
        for store in [store_with(a=()), full_store()]:
            for other in BAD_NAMES:
                self.assert_refused(store, BadName, "name", other, ("copy", "a", other))
            self.assert_refused(store, NameTaken, "name", "a", ("copy", "a", "a"))
        self.assert_refused(full_store(), NameTaken, "name", "f", ("copy", "a", "f"))
        self.assert_refused(full_store(), TooManyForests, "limit", 6, ("copy", "a", "g"))

    def test_swap(self):
        store = store_with(oak=(0, 0, 1), elm=(), ash=(0,))
        self.assert_answer(store.apply(("swap", "oak", "elm")), 0)
        self.assert_answer([store.forest_of(name) for name in ["oak", "elm", "ash"]], [(), (0, 0, 1), (0,)])
        self.assert_answer(store.apply(("swap", "elm", "elm")), 0)
        self.assert_answer([store.forest_of(name) for name in ["oak", "elm", "ash"]], [(), (0, 0, 1), (0,)])
        self.assert_answer(store.steps(), (5, 0))

    def test_errors_of_swap(self):
        store = store_with(oak=(0, 0, 1))
        self.assert_refused(store, NoForest, "name", "elm", ("swap", "elm", "ash"))
        self.assert_refused(store, NoForest, "name", "elm", ("swap", "elm", "oak"))
        self.assert_refused(store, NoForest, "name", "elm", ("swap", "oak", "elm"))
        self.assert_refused(store, NoForest, "name", "elm", ("swap", "elm", "elm"))
        self.assert_refused(store, NoForest, "name", "", ("swap", "oak", ""))


class ForestCommandTest(StoreCase):
    """find, link, unite, run, flatten and grow."""

    def check_command(self, forest, command, after, cost):
        """What a command does to a forest, alone and in a batch, and that other forests stay."""
        word, *rest = command
        store = store_with(oak=forest, elm=forest)
        self.assert_answer(store.apply((word, "oak", *rest)), cost)
        self.assert_answer([store.forest_of("oak"), store.forest_of("elm")], [after, forest])
        self.assert_answer(store.total_cost(), cost)
        self.assert_answer(store.apply_all([(word, "elm", *rest)]), [cost])
        self.assert_answer(store.forest_of("elm"), after)
        self.assert_answer(store.total_cost(), 2 * cost)
        self.assert_answer(store.names(), ["elm", "oak"])

    def test_find(self):
        for size in range(5):
            for forest in small_forests(size):
                for node in range(size):
                    self.check_command(forest, ("find", node), *find(forest, node))
        self.check_command(CHAIN, ("find", 39), *find(CHAIN, 39))

    def test_link(self):
        for size in range(5):
            for forest in small_forests(size):
                roots = [node for node in range(size) if forest[node] == node]
                for child, above in itertools.permutations(roots, 2):
                    self.check_command(forest, ("link", child, above), link(forest, child, above), 0)

    def test_unite(self):
        for forest in [*small_forests(3), (0, 0, 1, 3, 3, 4), CHAIN]:
            for one, other in itertools.product(range(min(len(forest), 6)), repeat=2):
                self.check_command(forest, ("unite", one, other), *unite(forest, one, other))

    def test_run(self):
        forest = (0, 0, 1, 2, 4)
        for history in [[], [3], (3, 2), [("link", 0, 4), 3], [("repeat", 10, (3, 1))], (("repeat", 10, [3, 1]), 4),
                        [3, ("link", 4, 0), ("repeat", MANY, (4, ("repeat", MANY, (3, 0))))], [("repeat", 0, (99,))]]:
            self.check_command(forest, ("run", history), *run_history(forest, history))

    def test_run_does_not_change_the_history(self):
        history = [3, ("repeat", 2, [1, ("repeat", 3, [2])])]
        store_with(oak=CHAIN).apply(("run", "oak", history))
        self.assertEqual(history, [3, ("repeat", 2, [1, ("repeat", 3, [2])])])

    def test_flatten(self):
        source = random.Random(61)
        forests = [forest for size in range(5) for forest in small_forests(size)]
        for forest in [*forests, CHAIN, *[random_tree(source, 40, 3) for turn in range(5)]]:
            cost = total_cost(forest, flattening_finds(forest))
            self.check_command(forest, ("flatten",), flattened(forest), cost)

    def test_grow(self):
        for forest in [(), (0,), (1, 1), (0, 0, 1)]:
            for many in [0, 1, 2, 40 - len(forest)]:
                after = forest + tuple(range(len(forest), len(forest) + many))
                self.check_command(forest, ("grow", many), after, 0)
        self.check_command(CHAIN, ("grow", 0), CHAIN, 0)

    def test_no_forest_before_nodes_and_numbers(self):
        store = store_with(oak=(0, 0, 1))
        for name in ["elm", "", "Oak"]:
            for number in [0, -1, 99, -MANY]:
                for command in [("find", name, number), ("link", name, number, 0), ("link", name, 0, number),
                                ("unite", name, number, 0), ("unite", name, 0, number), ("grow", name, number),
                                ("run", name, [number]), ("run", name, [()]), ("run", name, [1] * 101),
                                ("flatten", name)]:
                    self.assert_refused(store, NoForest, "name", name, command)

    def test_no_node(self):
        store = store_with(oak=(0, 0, 1))
        for bad in [3, -1, -3, MANY, -MANY]:
            self.assert_refused(store, NoNode, "node", bad, ("find", "oak", bad))
            self.assert_refused(store, NoNode, "node", bad, ("unite", "oak", bad, 99))
            self.assert_refused(store, NoNode, "node", bad, ("unite", "oak", 2, bad))
            self.assert_refused(store, NoNode, "node", bad, ("link", "oak", bad, 99))
            self.assert_refused(store, NoNode, "node", bad, ("link", "oak", 0, bad))
            self.assert_refused(store, NoNode, "node", bad, ("run", "oak", [2, bad, 99]))
        self.assert_refused(store_with(oak=()), NoNode, "node", 0, ("find", "oak", 0))

    def test_errors_of_link(self):
        store = store_with(oak=(0, 0, 2))
        self.assert_refused(store, NotRoot, "node", 1, ("link", "oak", 1, 99))
        self.assert_refused(store, NotRoot, "node", 1, ("link", "oak", 1, 1))
        self.assert_refused(store, NotRoot, "node", 1, ("link", "oak", 0, 1))
        self.assert_refused(store, SameRoot, "node", 2, ("link", "oak", 2, 2))

    def test_errors_of_run(self):
        store = store_with(oak=(0, 0, 2))
        self.assert_refused(store, TooLong, "limit", 100, ("run", "oak", [1] * 101))
        self.assert_refused(store, BadStep, "pos", 1, ("run", "oak", [99, ()]))
        self.assert_refused(store, BadStep, "pos", 2, ("run", "oak", (1, ("repeat", 1, [("link", 0, 2)]))))
        self.assert_refused(store, NotRoot, "node", 1, ("run", "oak", [1, ("link", 1, 0), 99]))
        self.assert_refused(store, SameRoot, "node", 0, ("run", "oak", [1, ("link", 0, 0)]))

    def test_errors_of_grow(self):
        store = store_with(oak=(0, 0, 1), elm=CHAIN)
        for many in [-1, -2, -MANY]:
            self.assert_refused(store, BadCount, "count", many, ("grow", "oak", many))
            self.assert_refused(store, BadCount, "count", many, ("grow", "elm", many))
        for many in [38, 40, MANY]:
            self.assert_refused(store, TooManyNodes, "limit", 40, ("grow", "oak", many))
        self.assert_refused(store, TooManyNodes, "limit", 40, ("grow", "elm", 1))


class BadCommandTest(StoreCase):
    def bad_commands(self):
        """Pairs of a field and a tuple that is no command."""
        yield None, ()
        for word in ["", "plant", "New", "new ", "undo", "show", "names", "\n"]:
            for rest in [(), ("oak",), ("oak", 1), ("oak", 1, 2), ("oak", 1, 2, 3)]:
                yield word, (word, *rest)
        for word, length in LENGTHS.items():
            for many in [0, 1, 2, 3, 4, 5, 9]:
                if many + 1 != length:
                    yield word, (word, *["oak", 0, 0, 0, 0, 0, 0, 0, 0][:many])

    def test_alone_and_in_batches(self):
        store = store_with(oak=(0, 0, 1))
        store.apply(("find", "oak", 2))
        store.undo()
        for word, command in self.bad_commands():
            self.assert_refused(store, BadCommand, "word", word, command)

    def test_before_the_error_of_an_earlier_command(self):
        store = store_with(oak=(0, 0, 1))
        for word, command in self.bad_commands():
            for earlier in [("drop", "elm"), ("find", "oak", 9), ("grow", "oak", -1), ("new", "", ()), ("drop", "oak")]:
                batch = [earlier, ("find", "oak", 1), command, ("plant", 1)]
                self.assert_unchanged(store, BadCommand, "word", word, store.apply_all, batch)

    def test_the_first_one_of_several(self):
        store = Store()
        self.assert_unchanged(store, BadCommand, "word", "elm", store.apply_all, [("elm",), ("oak",), ()])
        self.assert_unchanged(store, BadCommand, "word", None, store.apply_all, [(), ("oak",)])


class BatchTest(StoreCase):
    def good_commands(self):
        return [("new", "elm", (0, 0, 1)), ("find", "elm", 2), ("copy", "elm", "ash"), ("drop", "oak"),
                ("grow", "ash", 2), ("link", "ash", 3, 0), ("swap", "elm", "ash")]

    def test_failing_command_at_every_place(self):
        for kind, field, value, command in [
            (NoForest, "name", "fir", ("drop", "fir")), (BadName, "name", "", ("new", "", ())),
            (NoForest, "name", "fir", ("find", "fir", -1)), (NameTaken, "name", "yew", ("new", "yew", ())),
            (NoNode, "node", 9, ("find", "yew", 9)), (BadCount, "count", -1, ("grow", "yew", -1)),
            (TooManyNodes, "limit", 40, ("grow", "yew", 40)), (BadCommand, "word", "cut", ("cut", "yew")),
        ]:
            store = store_with(oak=(0, 0), yew=(0,))
            store.apply_all([("find", "oak", 1)])
            store.apply(("drop", "yew"))
            store.undo()
            for place in range(8):
                batch = self.good_commands()
                batch.insert(place, command)
                self.assert_unchanged(store, kind, field, value, store.apply_all, batch)
                self.assert_unchanged(store, kind, field, value, store.apply_all, tuple(batch))

    def test_costs_and_one_step(self):
        store = store_with(oak=(0, 0))
        batch = self.good_commands()
        costs = store.apply_all(batch)
        self.assert_answer(costs, [0, 2, 0, 0, 0, 0, 0])
        self.assertEqual(batch, self.good_commands())
        self.assert_answer(store.steps(), (2, 0))
        self.assert_answer([store.forest_of("ash"), store.forest_of("elm")], [(0, 0, 0), (0, 0, 0, 0, 4)])
        store.undo()
        self.assert_answer([store.names(), store.forest_of("oak"), store.total_cost()], [["oak"], (0, 0), 0])
        store.redo()
        self.assert_answer([store.names(), store.total_cost()], [["ash", "elm"], 2])

    def test_returned_costs_are_new(self):
        store = store_with(oak=(0, 0, 1))
        spoil(store.apply_all([("find", "oak", 2), ("find", "oak", 2)]))
        self.assert_answer(store.total_cost(), 3)
        self.assert_answer(store.apply_all([("find", "oak", 2)]), [1])

    def test_batch_in_a_tuple(self):
        one, other = store_with(oak=(0, 0)), store_with(oak=(0, 0))
        self.assert_answer(one.apply_all(tuple(self.good_commands())), other.apply_all(self.good_commands()))
        self.assertEqual(deep_view(one), deep_view(other))

    def test_empty_batch_is_a_step(self):
        for empty in [[], ()]:
            store = store_with(oak=(0, 0))
            store.apply(("find", "oak", 1))
            store.undo()
            self.assert_answer(store.apply_all(empty), [])
            self.assert_answer(store.steps(), (2, 0))
            self.assert_empty(store, store.redo)
            store.undo()
            self.assert_answer(store.steps(), (1, 1))
            store.undo()
            self.assert_answer([store.names(), store.steps()], [[], (0, 2)])
            store.redo()
            store.redo()
            self.assert_answer([store.names(), store.steps()], [["oak"], (2, 0)])

    def test_many_commands(self):
        store = store_with(oak=CHAIN)
        costs = store.apply_all([("find", "oak", 39)] * 200)
        self.assert_answer(costs, [39] + [1] * 199)
        self.assert_answer(store.total_cost(), 238)

    def test_commands_see_the_ones_before(self):
        store = Store()
        batch = [("new", name, ()) for name in NAMES] + [("drop", "a"), ("new", "g", ())]
        self.assert_answer(store.apply_all(batch), [0] * 8)
        self.assert_answer(store.names(), ["b", "c", "d", "e", "f", "g"])
        self.assert_unchanged(store, TooManyForests, "limit", 6, store.apply_all, [("copy", "b", "h")])
        self.assert_unchanged(store, NoForest, "name", "b", store.apply_all, [("drop", "b"), ("drop", "b")])


def random_command(source, store):
    """Some command, of which many can be applied."""
    names = [*store.names(), source.choice(NAMES)]
    name = source.choice(names)
    size = len(store.forest_of(name)) if name in store.names() else 3
    node, other = source.randrange(size + 1), source.randrange(size + 1)
    return source.choice([
        ("new", source.choice(NAMES), random_tree(source, source.randint(1, 6), 2)), ("drop", name),
        ("copy", name, source.choice(NAMES)), ("swap", name, source.choice(names)), ("find", name, node),
        ("link", name, node, other), ("unite", name, node, other), ("flatten", name), ("grow", name, 1),
        ("run", name, [("repeat", 3, [node, other])]),
    ])


class UndoTest(StoreCase):
    def test_many_steps_back_and_forth(self):
        source = random.Random(62)
        store = Store()
        views = [self.state(store)]
        while len(views) < 80:
            commands = [random_command(source, store) for number in range(source.choice([0, 1, 1, 1, 2]))]
            kind, answer = outcome(store.apply_all, [commands], {})
            if kind == "answer":
                views.append(self.state(store))
            self.assert_answer(store.steps(), (len(views) - 1, 0))
        for turn in range(2):
            for many in reversed(range(79)):
                self.assertIsNone(store.undo())
                self.assertEqual(self.state(store), views[many])
                self.assert_answer(store.steps(), (many, 79 - many))
            self.assert_empty(store, store.undo)
            for many in range(1, 80):
                self.assertIsNone(store.redo())
                self.assertEqual(self.state(store), views[many])
                self.assert_answer(store.steps(), (many, 79 - many))
            self.assert_empty(store, store.redo)

    def state(self, store):
        return [(name, store.forest_of(name)) for name in store.names()], store.total_cost()

    def test_any_calls(self):
        source = random.Random(63)
        for turn in range(40):
            store = Store()
            past, future = [], []
            for call in range(40):
                before = self.state(store)
                word = source.choice(["undo", "redo", "apply", "apply", "apply"])
                if word == "apply":
                    if outcome(store.apply, [random_command(source, store)], {})[0] == "answer":
                        past, future = [*past, before], []
                    else:
                        self.assertEqual(self.state(store), before)
                elif (past if word == "undo" else future):
                    wanted = (past if word == "undo" else future).pop()
                    (future if word == "undo" else past).append(before)
                    getattr(store, word)()
                    self.assertEqual(self.state(store), wanted)
                else:
                    self.assert_empty(store, getattr(store, word))
                self.assert_answer(store.steps(), (len(past), len(future)))

    def test_new_step_behind_an_undo(self):
        store = store_with(oak=(0, 0, 1))
        store.apply(("find", "oak", 2))
        store.apply(("drop", "oak"))
        store.undo()
        store.undo()
        self.assert_unchanged(store, NoForest, "name", "elm", store.apply, ("drop", "elm"))
        self.assert_answer(store.steps(), (1, 2))
        store.apply(("find", "oak", 1))
        self.assert_answer([store.steps(), store.total_cost()], [(2, 0), 1])
        self.assert_empty(store, store.redo)

    def test_empty_history(self):
        store = Store()
        self.assert_empty(store, store.undo)
        self.assert_empty(store, store.redo)


class QueryTest(StoreCase):
    def test_forest_of(self):
        store = store_with(oak=(0, 0), elm=())
        self.assert_answer([store.forest_of("oak"), store.forest_of("elm")], [(0, 0), ()])
        for name in ["ash", "", "Oak", "oak\n"]:
            self.assert_unchanged(store, NoForest, "name", name, store.forest_of, name)

    def test_names_are_new_and_ascending(self):
        store = store_with(oak=(), elm=(), fir=(), ash=())
        self.assert_answer(store.names(), ["ash", "elm", "fir", "oak"])
        self.assert_fresh(store.names)

    def test_distance(self):
        for size in range(4):
            for one, other in itertools.product(small_forests(size), repeat=2):
                store = store_with(oak=one, elm=other)
                kind, answer = outcome(needed_finds, [one, other], {})
                if kind == "answer":
                    self.assert_answer(store.distance("oak", "elm"), len(needed_finds(one, other)))
                else:
                    self.assertEqual(outcome(store.distance, ["oak", "elm"], {}), (kind, answer))

    def test_errors_of_distance(self):
        store = store_with(oak=(0, 0, 1, 2), elm=(0, 0, 1, 0), ash=(0, 1, 1), fir=(0, 0, 2, 2))
        for other in ["oak", "yew", "none", ""]:
            self.assert_unchanged(store, NoForest, "name", "yew", store.distance, "yew", other)
        self.assert_unchanged(store, NoForest, "name", "yew", store.distance, "oak", "yew")
        self.assert_unchanged(store, SizesDiffer, "size", 3, store.distance, "oak", "ash")
        self.assert_unchanged(store, SizesDiffer, "size", 4, store.distance, "ash", "fir")
        self.assert_unchanged(store, RootsDiffer, "node", 2, store.distance, "oak", "fir")
        self.assert_unchanged(store, NoWay, "node", 3, store.distance, "oak", "elm")
        self.assert_answer(store.distance("oak", "oak"), 0)

    def test_length_and_repr(self):
        store = Store()
        self.assert_answer(repr(store_with(oak=(0,))), "Store(1 forests, 1 nodes)")
        nodes = 0
        for many, name in enumerate(NAMES):
            self.assert_answer([len(store), repr(store)], [many, f"Store({many} forests, {nodes} nodes)"])
            store.apply(("new", name, CHAIN[:many * 8]))
            nodes += many * 8
        self.assert_answer(repr(store), "Store(6 forests, 120 nodes)")

    def test_equality(self):
        one, other = store_with(oak=(0, 0, 1), elm=()), store_with(elm=(), oak=(0, 0, 1))
        self.assertIs(one == other, True)
        self.assertIs(one != other, False)
        # Neither steps nor the total cost nor watches count.
        other.apply_all([])
        other.watch("oak", 1)
        other.apply(("find", "oak", 1))
        self.assertIs(one == other, True)
        other.apply(("find", "oak", 2))
        self.assertIs(one == other, False)
        self.assertIs(one != other, True)
        other.undo()
        self.assertIs(one == other, True)
        other.apply(("drop", "elm"))
        self.assertIs(one == other, False)
        self.assertIs(store_with(oak=()) == store_with(elm=()), False)
        self.assertIs(Store() == Store(), True)

    def test_equality_with_other_kinds(self):
        for store in [Store(), store_with(oak=())]:
            for other in [None, 0, 1, "", "Store(0 forests, 0 nodes)", [], (), {}, {"oak": ()}, Store, object()]:
                self.assertIs(store == other, False)
                self.assertIs(other == store, False)
                self.assertIs(store != other, True)

    def test_queries_do_not_change_the_state(self):
        store = store_with(oak=(0, 0, 1), elm=(0, 0, 0))
        store.watch("oak", 2)
        store.apply(("find", "oak", 2))
        store.undo()
        before = deep_view(store)
        for turn in range(2):
            store.names(), store.forest_of("oak"), store.total_cost(), store.steps(), store.distance("oak", "elm")
            store.watched(), len(store), repr(store), store == Store(), store.clone()
        self.assertEqual(deep_view(store), before)

    def test_keywords(self):
        store = store_with(oak=(0, 0, 1), elm=(0, 0, 0))
        for name in ["oak", "ash"]:
            self.assert_keywords(store.forest_of, name=name)
            self.assert_keywords(store.distance, name=name, other="elm")
            self.assert_keywords(store.clone().unwatch, number=1)
            wanted = outcome(store.clone().apply, [("find", name, 2)], {})
            self.assertEqual(outcome(store.clone().apply, [], {"command": ("find", name, 2)}), wanted)
            wanted = outcome(store.clone().apply_all, [[("find", name, 2)]], {})
            self.assertEqual(outcome(store.clone().apply_all, [], {"commands": [("find", name, 2)]}), wanted)
        one, other = store.clone(), store.clone()
        self.assert_answer([one.watch(node=2, name="oak"), other.watch("oak", 2)], [1, 1])
        self.assert_answer(one.watched(), other.watched())
        self.assertIsNone(one.unwatch(number=1))
        self.assert_answer(one.watched(), [])


class WatchTest(StoreCase):
    def test_values(self):
        source = random.Random(64)
        forest = random_tree(source, 40, 3)
        for node in range(40):
            store = store_with(oak=forest)
            self.assert_answer(store.watch("oak", node), 1)
            value = (root_of(forest, node), depth_of(forest, node))
            self.assert_answer(store.watched(), [(1, "oak", node, value)])
            self.assert_answer(store.news(), [])

    def test_missing_forests_and_nodes(self):
        store = store_with(oak=(0, 0))
        rows = [("oak", 2), ("oak", -1), ("oak", MANY), ("elm", 0), ("", 0), ("Not a name", -MANY)]
        for number, (name, node) in enumerate(rows):
            self.assert_answer(store.watch(name, node), number + 1)
        wanted = [(number + 1, name, node, None) for number, (name, node) in enumerate(rows)]
        self.assert_answer(store.watched(), wanted)
        self.assert_answer(store.news(), [])
        store.apply_all([("grow", "oak", 1), ("new", "elm", (1, 1))])
        self.assert_answer(store.news(), [(1, (2, 0)), (4, (1, 1))])
        self.assert_answer(store.news(), [])
        store.apply(("drop", "oak"))
        self.assert_answer(store.news(), [(1, None)])

    def test_six_watches(self):
        store = store_with(oak=(0, 0))
        for number in range(1, 7):
            self.assert_answer(store.watch("oak", 1), number)
        for name, node in [("oak", 1), ("elm", -1)]:
            self.assert_unchanged(store, TooManyWatches, "limit", 6, store.watch, name, node)
        self.assertIsNone(store.unwatch(3))
        # A refused watch takes no number.
        self.assert_answer(store.watch("oak", 0), 7)
        self.assert_answer([row[0] for row in store.watched()], [1, 2, 4, 5, 6, 7])
        self.assert_unchanged(store, TooManyWatches, "limit", 6, store.watch, "oak", 1)

    def test_numbers_are_not_used_again(self):
        store = store_with(oak=(0, 0))
        for number in range(1, 20):
            self.assert_answer(store.watch("oak", 1), number)
            self.assertIsNone(store.unwatch(number))
            self.assert_unchanged(store, NoWatch, "number", number, store.unwatch, number)
        self.assert_answer(store.watched(), [])

    def test_no_watch(self):
        store = store_with(oak=(0, 0))
        store.watch("oak", 1)
        for number in [0, 2, -1, MANY, -MANY]:
            self.assert_unchanged(store, NoWatch, "number", number, store.unwatch, number)

    def test_unwatch_leaves_the_others(self):
        store = store_with(oak=(0, 0, 1))
        for node in range(3):
            store.watch("oak", node)
        store.unwatch(2)
        store.apply(("find", "oak", 2))
        self.assert_answer(store.watched(), [(1, "oak", 0, (0, 0)), (3, "oak", 2, (0, 1))])
        self.assert_answer(store.news(), [(3, (0, 1))])

    def test_commands_that_undo_each_other(self):
        store = store_with(oak=(0, 0, 1), elm=(0,))
        store.watch("oak", 2)
        store.watch("elm", 2)
        store.apply_all([("swap", "oak", "elm"), ("swap", "elm", "oak")])
        self.assert_answer(store.news(), [])
        store.apply_all([("copy", "oak", "ash"), ("find", "oak", 2), ("drop", "oak"), ("copy", "ash", "oak")])
        self.assert_answer(store.news(), [])
        store.apply(("swap", "oak", "elm"))
        store.apply(("swap", "oak", "elm"))
        self.assert_answer(store.news(), [])
        store.apply(("swap", "oak", "elm"))
        self.assert_answer(store.news(), [(1, None), (2, (0, 2))])

    def test_failing_commands_are_no_news(self):
        store = store_with(oak=(0, 0, 1))
        store.watch("oak", 2)
        self.assert_unchanged(store, NoForest, "name", "elm", store.apply_all, [("find", "oak", 2), ("drop", "elm")])
        self.assert_answer(store.news(), [])
        store.apply(("find", "oak", 2))
        self.assert_unchanged(store, NoForest, "name", "elm", store.apply_all, [("drop", "oak"), ("drop", "elm")])
        self.assert_answer(store.news(), [(1, (0, 1))])

    def test_undo_and_redo_leave_watches(self):
        store = store_with(oak=(0, 0, 1))
        store.watch("oak", 2)
        store.apply(("find", "oak", 2))
        self.assert_answer(store.news(), [(1, (0, 1))])
        store.undo()
        self.assert_answer(store.news(), [(1, (0, 2))])
        store.undo()
        self.assert_answer(store.watched(), [(1, "oak", 2, None)])
        self.assert_answer(store.steps(), (0, 2))
        self.assert_answer(store.watch("oak", 1), 2)
        self.assert_answer(store.steps(), (0, 2))
        store.redo()
        # The first watch has the value again that was told last.
        self.assert_answer(store.news(), [(2, (0, 1))])
        store.unwatch(2)
        store.redo()
        self.assert_answer(store.news(), [(1, (0, 1))])
        self.assert_answer(store.watched(), [(1, "oak", 2, (0, 1))])
        store.undo()
        store.redo()
        self.assert_answer(store.news(), [])

    def test_news_and_watched_are_new(self):
        store = store_with(oak=(0, 0, 1))
        store.watch("oak", 2)
        self.assert_fresh(store.watched)
        store.apply(("find", "oak", 2))
        spoil(store.news())
        self.assert_answer(store.news(), [])

    def test_any_calls(self):
        source = random.Random(65)
        for turn in range(30):
            store = Store()
            watches, told, last = {}, {}, 0
            for call in range(40):
                word = source.choice(["apply", "apply", "undo", "redo", "watch", "unwatch", "news"])
                if word == "apply":
                    outcome(store.apply, [random_command(source, store)], {})
                elif word == "watch" and len(watches) < 6:
                    last += 1
                    watches[last] = (source.choice(NAMES), source.randint(-1, 5))
                    self.assert_answer(store.watch(*watches[last]), last)
                    told[last] = self.value(store, *watches[last])
                elif word == "unwatch" and watches:
                    number = source.choice(list(watches))
                    store.unwatch(number)
                    del watches[number]
                elif word == "news":
                    values = {number: self.value(store, *watches[number]) for number in sorted(watches)}
                    wanted = [(number, value) for number, value in values.items() if value != told[number]]
                    self.assert_answer(store.news(), wanted)
                    told.update(values)
                elif word in ["undo", "redo"]:
                    outcome(getattr(store, word), [], {})
                rows = [(number, *watches[number], self.value(store, *watches[number])) for number in sorted(watches)]
                self.assert_answer(store.watched(), rows)

    def value(self, store, name, node):
        forest = store.forest_of(name) if name in store.names() else ()
        return (root_of(forest, node), depth_of(forest, node)) if 0 <= node < len(forest) else None


class CloneTest(StoreCase):
    def busy_store(self):
        store = store_with(oak=(0, 0, 1), elm=(0,))
        store.watch("oak", 2)
        store.watch("elm", 1)
        store.unwatch(2)
        store.watch("ash", 0)
        store.apply(("find", "oak", 2))
        store.apply_all([("copy", "oak", "ash"), ("grow", "elm", 3)])
        store.undo()
        return store

    def test_same_in_all(self):
        store = self.busy_store()
        double = store.clone()
        self.assertIsNot(double, store)
        self.assertEqual(double, store)
        self.assertEqual(deep_view(double), deep_view(store))
        self.assert_answer(double.news(), [(1, (0, 1))])
        self.assert_answer(store.news(), [(1, (0, 1))])
        # Numbers go on where they were, for each of them alone.
        self.assert_answer([double.watch("oak", 0), double.watch("oak", 0), store.watch("oak", 0)], [4, 5, 4])
        double.redo()
        self.assert_answer(double.news(), [(3, (0, 0))])

    def test_each_is_changed_alone(self):
        changes = [
            lambda store: store.apply(("drop", "oak")), lambda store: store.undo(), lambda store: store.redo(),
            lambda store: store.apply_all([]), lambda store: store.watch("fir", 1), lambda store: store.unwatch(1),
            lambda store: store.news(), lambda store: store.apply(("find", "oak", 1)),
        ]
        for change in changes:
            first = self.busy_store()
            second = first.clone()
            third = second.clone()
            before = deep_view(first)
            for changed, others in [(second, [first, third]), (first, [third])]:
                change(changed)
                self.assertNotEqual(deep_view(changed), before)
                for other in others:
                    self.assertEqual(deep_view(other), before)

    def test_clone_of_an_empty_store(self):
        store = Store()
        double = store.clone()
        double.apply(("new", "oak", ()))
        self.assert_answer([len(store), len(double)], [0, 1])
        self.assert_answer(store.steps(), (0, 0))

    def test_steps_behind_a_clone(self):
        store = self.busy_store()
        double = store.clone()
        while store.steps()[0]:
            store.undo()
        self.assert_answer([store.names(), double.names()], [[], ["elm", "oak"]])
        double.undo()
        self.assert_answer([double.forest_of("oak"), double.total_cost(), double.steps()], [(0, 0, 1), 0, (2, 2)])


if __name__ == "__main__":
    unittest.main()
