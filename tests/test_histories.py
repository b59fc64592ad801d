"""findforests.histories: what a history is, what it finds, and what it does to forests."""

import copy
import itertools
import random
import unittest

from findforests import histories
from findforests.errors import BadStep, NoNode, NotRoot, SameRoot, TooLong
from findforests.finds import find, find_all, link
from findforests.histories import (
    COUNT_LIMIT, check_history, count_finds, effect_difference, epochs, found_nodes, run_history, unroll,
)
from tests.helpers import ForestCase, small_forests

MANY = 10 ** 30
SEVERAL = (4, 1, 1, 2, 4, 0, 6, 3)
LONG_CHAIN = tuple(max(0, node - 1) for node in range(40))
WITH_HISTORY = [check_history, count_finds, found_nodes, epochs, unroll]

# Each is right, and finds nodes of SEVERAL only.
RIGHT = [
    [],
    [7],
    [7, 3, 7],
    [("repeat", 3, (7, 5))],
    [("repeat", 0, (7,)), 5],
    [("repeat", 2, (7, ("repeat", 3, (5, 2)), 1)), 0],
    [("repeat", 2, [7, ("repeat", 3, [5, 2]), 1]), 0],
    [5, ("link", 4, 6), 5, ("link", 6, 1), ("repeat", 4, (5, 7))],
    [("link", 1, 4), ("link", 4, 6)],
    [("repeat", 5, ()), ("repeat", MANY, (("repeat", MANY, ()),))],
    [("repeat", 2, (("repeat", 2, (("repeat", 2, (("repeat", 2, (7,)), 3)), 5)), 0))],
    [("repeat", 0, (("repeat", MANY, (9,)),)), 3],
]

# Each comes with the position of the first step that is wrong.
WRONG = [
    (0, [()]),
    (0, [("find", 1, 2)]),
    (0, [("", 1, 2)]),
    (0, [("Link", 1, 2)]),
    (0, [("repeat ", 1, (2,))]),
    (0, [("link",)]),
    (0, [("link", 1)]),
    (0, [("link", 1, 2, 3)]),
    (0, [("link", 1, (2,))]),
    (0, [("link", 1, [])]),
    (0, [("repeat",)]),
    (0, [("repeat", 1)]),
    (0, [("repeat", 1, 2)]),
    (0, [("repeat", 1, (2,), 3)]),
    (0, [("repeat", 1, (2,), (3,))]),
    (0, [("repeat", -1, (2,))]),
    (0, [("repeat", -MANY, ())]),
    (0, [("repeat", MANY + 1, (2,))]),
    (0, [("repeat", MANY + 1, ())]),
    (2, [1, ("link", 5, 6), ("link", 1)]),
    (1, [("repeat", 1, (("link", 1, 2),))]),
    (1, [("repeat", 0, (("link", 1, 2),))]),
    (3, [1, ("repeat", 2, (3, ("link", 2, 1)))]),
    (3, [1, ("repeat", 2, [3, ("link", 2, 1)])]),
    (4, [1, ("repeat", 2, (3, 3)), ("link", 1)]),
    (5, [("repeat", 2, (3, ("repeat", 2, (4,)), 5, ("unite", 1, 2)))]),
    (4, [("repeat", 1, (("repeat", 1, (("repeat", 1, (("repeat", 1, (("repeat", 1, ()),)),)),)),))]),
    (4, [("repeat", 1, [("repeat", 1, [("repeat", 1, [("repeat", 1, [("link", 0, 1)])])])])]),
    (6, [9, ("repeat", 1, (8, ("repeat", 1, (("repeat", 1, (("repeat", 1, (("repeat", 0, (1,)), 4)),)),))))]),
    (1, [("repeat", 2, (("link", 1), ("repeat", -1, ()))), ()]),
    (0, [("repeat", -1, (("link", 1, 2),)), ()]),
    (1, [1, (), ("repeat", -1, ())]),
]


def as_tuples(history):
    """The same history with tuples in place of all lists."""
    return tuple(tuple(as_tuples(part) if isinstance(part, (list, tuple)) else part for part in step)
                 if isinstance(step, tuple) else step for step in history)


def as_lists(history):
    """The same history with lists in place of the tuples of steps."""
    return [(*step[:2], as_lists(step[2])) if isinstance(step, tuple) and step[0] == "repeat" else step
            for step in history]


def single_steps(history):
    """The finds and links one by one, for small counts."""
    rows = []
    for step in history:
        if isinstance(step, tuple) and step[0] == "repeat":
            for turn in range(step[1]):
                rows += single_steps(step[2])
        else:
            rows.append(step)
    return rows


def run_single_steps(forest, rows):
    total = 0
    for row in rows:
        if isinstance(row, tuple):
            forest = link(forest, row[1], row[2])
        else:
            forest, cost = find(forest, row)
            total += cost
    return forest, total


def random_steps(source, nodes, depth):
    """Some finds and rounds with small counts."""
    steps = []
    for number in range(source.randint(0, 4)):
        if depth < 4 and source.random() < 0.4:
            steps.append(("repeat", source.randint(0, 3), tuple(random_steps(source, nodes, depth + 1))))
        else:
            steps.append(source.choice(nodes))
    return steps


def outcome_of(call, *args):
    """The answer, or the kind and the node of the error."""
    try:
        return call(*args)
    except (NoNode, NotRoot, SameRoot) as error:
        return error.tag, error.node


class CheckHistoryTest(ForestCase):
    def test_example(self):
        self.assert_error(BadStep, "pos", 3, check_history, [1, ("repeat", 2, (3, ("link", 2, 1)))])

    def test_limits(self):
        self.assert_answer(histories.MAX_STEPS, 100)
        self.assert_answer(histories.MAX_NESTING, 4)
        self.assert_answer(histories.COUNT_LIMIT, 10 ** 30)
        self.assert_answer(histories.UNROLL_LIMIT, 1000)

    def test_right(self):
        for history in RIGHT:
            with self.subTest(history):
                self.assertIsNone(check_history(history))

    def test_any_integer_is_a_node(self):
        self.assertIsNone(check_history([-1, MANY, -MANY, ("repeat", 2, (-7,)), ("link", -1, MANY), ("link", 3, 3)]))

    def test_counts(self):
        for count in [0, 1, 2, MANY - 1, MANY]:
            self.assertIsNone(check_history([("repeat", count, (1,))]))
            self.assertIsNone(check_history([("repeat", 1, (("repeat", count, ()),))]))
        for count in [-1, -2, MANY + 1, 2 * MANY]:
            self.assert_error(BadStep, "pos", 0, check_history, [("repeat", count, (1,))])
            self.assert_error(BadStep, "pos", 2, check_history, [("repeat", 1, (1, ("repeat", count, ())))])

    def test_wrong(self):
        for pos, history in WRONG:
            with self.subTest(history):
                self.assert_error(BadStep, "pos", pos, check_history, history)

    def test_wrong_at_every_depth_and_position(self):
        bads = [(), ("find", 1), ("link", 1), ("repeat", -1, ()), ("repeat", 1, 1), ("link", 1, 2, 3)]
        for bad, depth, before in itertools.product(bads, range(5), range(3)):
            history = [5] * before + [bad, ()]
            for level in range(depth):
                history = [6] * before + [("repeat", 2, tuple(history)), ()]
            self.assert_error(BadStep, "pos", depth + before * (depth + 1), check_history, history)

    def test_links_only_in_the_list_itself(self):
        self.assertIsNone(check_history([("link", 1, 2)]))
        history = [("link", 1, 2)]
        for depth in range(1, 5):
            history = [("repeat", 1, tuple(history))]
            self.assert_error(BadStep, "pos", depth, check_history, history)

    def test_depth(self):
        history = [1]
        for depth in range(1, 5):
            history = [("repeat", 1, history)]
            self.assertIsNone(check_history(history))
        for depth in range(5, 9):
            history = [("repeat", 1, history)]
            self.assert_error(BadStep, "pos", 4, check_history, history)

    def test_depth_is_counted_anew_behind_a_round(self):
        deep = ("repeat", 1, (("repeat", 1, (("repeat", 1, (("repeat", 1, (1,)),)),)),))
        self.assertIsNone(check_history([deep, deep, 2, deep]))

    def test_length(self):
        self.assertIsNone(check_history([1] * 100))
        self.assertIsNone(check_history([("repeat", 1, (1,) * 99)]))
        self.assertIsNone(check_history([("repeat", 1, ())] * 100))
        self.assertIsNone(check_history([("repeat", 2, (1,))] * 50))
        for history in [[1] * 101, [1] * 200, [("repeat", 1, (1,) * 100)], [("repeat", 2, (1,))] * 51,
                        [("repeat", 0, (1,) * 60), ("repeat", 0, (1,) * 60)], [("repeat", 2, (1,))] * 50 + [1]]:
            self.assert_error(TooLong, "limit", 100, check_history, history)

    def test_position_100_whatever_the_step_is(self):
        for step in [1, (), ("link", 1), ("link", 1, 2), ("repeat", -1, ()), ("repeat", 1, (1,)), ("find", 3, 3)]:
            self.assert_error(TooLong, "limit", 100, check_history, [1] * 100 + [step])
            self.assert_error(TooLong, "limit", 100, check_history, [("repeat", 1, (1,) * 99 + (step,))])
            self.assert_error(TooLong, "limit", 100, check_history, [1] * 99 + [("repeat", 1, (step,))])
            self.assert_error(TooLong, "limit", 100, check_history, [("repeat", 1, (1,) * 99), step])

    def test_first_fault_in_the_order_of_positions(self):
        self.assert_error(BadStep, "pos", 99, check_history, [1] * 99 + [()] + [1])
        self.assert_error(BadStep, "pos", 0, check_history, [()] + [1] * 150)
        self.assert_error(BadStep, "pos", 99, check_history, [("repeat", 1, (1,) * 98 + (("link", 1, 2), 1))])
        self.assert_error(BadStep, "pos", 99, check_history, [1] * 99 + [("repeat", -1, (1, 1))])


class SharedRulesTest(ForestCase):
    def all_calls(self):
        yield from ((call.__name__, call) for call in WITH_HISTORY)
        yield "unroll with limit", lambda history: unroll(history, limit=0)
        yield "run_history", lambda history: run_history(SEVERAL, history)
        yield "run_history without nodes", lambda history: run_history((), history)
        yield "effect_difference, one", lambda history: effect_difference(history, [()], 0)
        yield "effect_difference, other", lambda history: effect_difference([99], history, 0)

    def test_errors_of_check_history_first(self):
        for name, call in self.all_calls():
            with self.subTest(name):
                for pos, history in WRONG:
                    self.assert_error(BadStep, "pos", pos, call, history)
                    self.assert_error(BadStep, "pos", pos, call, as_tuples(history))
                self.assert_error(BadStep, "pos", 2, call, [99, ("link", 98, 98), ("link", 1)])
                self.assert_error(TooLong, "limit", 100, call, [99] * 100 + [()])
                self.assert_error(TooLong, "limit", 100, call, [("repeat", MANY, (99,) * 100)])

    def test_tuples_in_place_of_lists(self):
        for call in WITH_HISTORY:
            for history in RIGHT:
                wanted = call(history)
                self.assert_answer(call(as_tuples(history)), wanted)
                self.assert_answer(call(as_lists(history)), wanted)
        for history in RIGHT:
            wanted = run_history(SEVERAL, history)
            self.assert_answer(run_history(SEVERAL, as_tuples(history)), wanted)
            self.assert_answer(run_history(SEVERAL, as_lists(history)), wanted)

    def test_arguments_do_not_change(self):
        calls = [*WITH_HISTORY, lambda history: run_history(SEVERAL, history),
                 lambda history: effect_difference(history, history[:1], 9)]
        for call, history in itertools.product(calls, RIGHT):
            passed = as_lists(history)
            before = copy.deepcopy(passed)
            call(passed)
            self.assert_answer(passed, before)

    def test_results_are_new(self):
        for call in [found_nodes, epochs, unroll]:
            for history in RIGHT:
                passed = as_lists(history)
                self.assert_fresh(call, passed)
                self.assert_answer(passed, as_lists(history))

    def test_keywords(self):
        for history in [*RIGHT, [()], [9, 8, -1]]:
            for call in WITH_HISTORY:
                self.assert_keywords(call, history=history)
            self.assert_keywords(run_history, forest=SEVERAL, history=history)
            self.assert_keywords(effect_difference, one=[5, 2], other=history, size=8)
            self.assert_keywords(effect_difference, one=history, other=[1], size=8)


class CountFindsTest(ForestCase):
    def test_example(self):
        history = [1, ("link", 0, 2), ("repeat", 10 ** 20, (2, ("repeat", 3, (4, 5))))]
        self.assert_answer(count_finds(history), 700000000000000000001)

    def test_counts(self):
        self.assert_answer(count_finds([]), 0)
        self.assert_answer(count_finds([("link", 0, 1), ("link", 1, 2)]), 0)
        self.assert_answer(count_finds([4, 4, -1]), 3)
        self.assert_answer(count_finds([("repeat", 0, (1, 2, 3)), 4]), 1)
        self.assert_answer(count_finds([("repeat", MANY, ())]), 0)
        self.assert_answer(count_finds([("repeat", MANY, (1, 2))]), 2 * MANY)
        self.assert_answer(count_finds([("repeat", MANY, (("repeat", 0, (1,)), 2))]), MANY)
        self.assert_answer(count_finds([("repeat", 0, (("repeat", MANY, (1,)), 2))]), 0)

    def test_four_great_counts(self):
        history = [1, 2]
        for depth in range(4):
            history = [("repeat", MANY, tuple(history))]
        self.assert_answer(count_finds(history), 2 * 10 ** 120)

    def test_against_single_steps(self):
        source = random.Random(1)
        for number in range(300):
            history = random_steps(source, [0, 1, 2, 9], 0)[:3]
            rows = single_steps(history)
            self.assert_answer(count_finds(history), len(rows))
            self.assert_answer(found_nodes(history), sorted(set(rows)))


class FoundNodesTest(ForestCase):
    def test_example(self):
        self.assert_answer(found_nodes([4, ("repeat", 3, (1, 4)), ("repeat", 0, (9,))]), [1, 4])

    def test_nodes(self):
        self.assert_answer(found_nodes([]), [])
        self.assert_answer(found_nodes([5, 3, 5, -2, MANY, 3]), [-2, 3, 5, MANY])
        self.assert_answer(found_nodes([("link", 7, 8), 1, ("link", 5, 6)]), [1])
        self.assert_answer(found_nodes([("repeat", MANY, (2, ("repeat", MANY, (1,))))]), [1, 2])
        self.assert_answer(found_nodes([("repeat", MANY, (2, ("repeat", 0, (1,))))]), [2])
        self.assert_answer(found_nodes([("repeat", 0, (2, ("repeat", MANY, (1,))))]), [])
        self.assert_answer(found_nodes([("repeat", 0, (2,)), 2]), [2])
        self.assert_answer(found_nodes([("repeat", 1, ()), ("repeat", 1, (3,))]), [3])


class EpochsTest(ForestCase):
    def test_example(self):
        history = [1, 2, ("link", 0, 3), ("link", 3, 4), ("repeat", 2, (5,))]
        self.assert_answer(epochs(history), [[1, 2], [], [("repeat", 2, (5,))]])

    def test_parts(self):
        self.assert_answer(epochs([]), [[]])
        self.assert_answer(epochs([3, 3]), [[3, 3]])
        self.assert_answer(epochs([("link", 0, 1)]), [[], []])
        self.assert_answer(epochs([("link", 0, 1), 4]), [[], [4]])
        self.assert_answer(epochs([4, ("link", 0, 1)]), [[4], []])
        self.assert_answer(epochs([("link", 0, 1)] * 3), [[], [], [], []])

    def test_rounds_stay_as_they_are(self):
        history = [("repeat", 0, (1,)), ("repeat", MANY, ()), ("link", 2, 2), ("repeat", 1, (("repeat", 2, (3,)), 4))]
        self.assert_answer(epochs(history), [history[:2], history[3:]])

    def test_steps_of_rounds_are_tuples_at_every_depth(self):
        history = [("repeat", 2, [1, ("repeat", 3, [2, ("repeat", 4, [("repeat", 5, [])])])]), 6]
        wanted = [[("repeat", 2, (1, ("repeat", 3, (2, ("repeat", 4, (("repeat", 5, ()),)))))), 6]]
        self.assert_answer(epochs(history), wanted)
        self.assert_answer(epochs(as_tuples(history)), wanted)

    def test_a_later_change_of_the_argument_does_not_reach_the_result(self):
        inner = [1]
        parts = epochs([("repeat", 2, inner)])
        inner.append(2)
        self.assert_answer(parts, [[("repeat", 2, (1,))]])


class UnrollTest(ForestCase):
    def test_example(self):
        history = [1, ("link", 0, 3), ("repeat", 2, (2, 3))]
        self.assert_answer(unroll(history), [1, ("link", 0, 3), 2, 3, 2, 3])

    def test_rounds(self):
        self.assert_answer(unroll([]), [])
        self.assert_answer(unroll([("repeat", 1, (7,))]), [7])
        self.assert_answer(unroll([("repeat", 0, (7,)), 8]), [8])
        self.assert_answer(unroll([("repeat", 2, (1, ("repeat", 3, (2,))))]), [1, 2, 2, 2, 1, 2, 2, 2])
        self.assert_answer(unroll([("repeat", 2, [1, ("repeat", 2, [2, 3])]), ("link", 5, 6)]),
                           [1, 2, 3, 2, 3, 1, 2, 3, 2, 3, ("link", 5, 6)])

    def test_rounds_in_which_nothing_is_found(self):
        nothing = [
            ("repeat", MANY, ()),
            ("repeat", MANY, (("repeat", MANY, ()), ("repeat", MANY, ()))),
            ("repeat", MANY, (("repeat", 0, (1, 2)),)),
            ("repeat", 0, (("repeat", MANY, (1, 2)),)),
            ("repeat", MANY, (("repeat", MANY, (("repeat", 0, (("repeat", MANY, (1,)),)),)),)),
            ("repeat", 0, (1, ("repeat", 0, (2,)))),
        ]
        for step in nothing:
            with self.subTest(step):
                self.assert_answer(unroll([step]), [])
                self.assert_answer(unroll([step], limit=0), [])
                self.assert_answer(unroll([4, step, ("link", 1, 2), step], limit=1), [4, ("link", 1, 2)])
        self.assert_answer(unroll([("repeat", 2, (5, nothing[1]))]), [5, 5])

    def test_limits(self):
        history = [1, ("link", 0, 3), ("repeat", 2, (2, ("repeat", 3, (4,)))), ("link", 3, 1)]
        self.assert_error(TooLong, "limit", 8, unroll, history, limit=8)
        self.assert_answer(len(unroll(history, limit=9)), 11)
        self.assert_answer(len(unroll(history, limit=10)), 11)

    def test_limit_0(self):
        self.assert_answer(unroll([], limit=0), [])
        self.assert_answer(unroll([("link", 0, 1)], limit=0), [("link", 0, 1)])
        self.assert_error(TooLong, "limit", 0, unroll, [3], limit=0)
        self.assert_error(TooLong, "limit", 0, unroll, [("repeat", MANY, (3,))], limit=0)

    def test_default_limit(self):
        self.assert_answer(unroll([("repeat", 1000, (3,))]), [3] * 1000)
        self.assert_answer(unroll([("repeat", 500, (3, 4)), ("link", 1, 2)]), [3, 4] * 500 + [("link", 1, 2)])
        self.assert_error(TooLong, "limit", 1000, unroll, [("repeat", 1000, (3,)), 4])
        self.assert_error(TooLong, "limit", 1000, unroll, [("repeat", MANY, (("repeat", MANY, (3,)),))])

    def test_greatest_limit(self):
        self.assert_answer(unroll([("repeat", 5000, (3,))], limit=5000), [3] * 5000)
        self.assert_error(TooLong, "limit", 5000, unroll, [("repeat", 5001, (3,))], limit=5000)
        self.assert_error(TooLong, "limit", 4999, unroll, [("repeat", 5000, (3,))], limit=4999)

    def test_limit_is_keyword_only(self):
        with self.assertRaises(TypeError):
            unroll([1], 5)
        self.assert_answer(unroll(limit=5, history=[1]), [1])

    def test_against_single_steps(self):
        source = random.Random(2)
        for number in range(300):
            history = random_steps(source, [0, 1, 2, 9], 1) + [("link", 5, 6)] + random_steps(source, [3, 4], 2)
            rows = single_steps(history)
            self.assert_answer(unroll(history, limit=5000), rows)
            finds = [row for row in rows if isinstance(row, int)]
            self.assert_answer(unroll(history, limit=len(finds)), rows)
            if finds:
                self.assert_error(TooLong, "limit", len(finds) - 1, unroll, history, limit=len(finds) - 1)


class RunHistoryTest(ForestCase):
    def test_example(self):
        self.assert_answer(run_history((0, 0, 1, 2), [("repeat", 10, (3, 1))]), ((0, 0, 0, 0), 22))

    def test_nothing_to_do(self):
        for forest in [(), (0,), SEVERAL]:
            for history in [[], [("repeat", MANY, ())], [("repeat", 0, (0, 99, -1))]]:
                self.assert_answer(run_history(forest, history), (forest, 0))

    def test_links(self):
        history = [3, ("link", 0, 4), 3, ("link", 4, 5), 3, 2]
        self.assert_answer(run_history((0, 0, 1, 2, 4, 5), history), ((5, 0, 5, 5, 5, 5), 3 + 2 + 2 + 3))

    def test_great_counts(self):
        self.assert_answer(run_history((0, 0, 1, 2), [("repeat", MANY, (3, 1, 0))]), ((0,) * 4, 4 + 2 * (MANY - 1)))
        self.assert_answer(run_history(LONG_CHAIN, [("repeat", MANY, (39,))]), ((0,) * 40, 38 + MANY))
        history = [("repeat", MANY, (39, ("repeat", MANY, (20, 0))))]
        self.assert_answer(run_history(LONG_CHAIN, history), ((0,) * 40, 38 + MANY + MANY * MANY))
        self.assert_answer(run_history((0, 1), [("repeat", MANY, (0, 1))]), ((0, 1), 0))

    def test_four_great_counts(self):
        history = [2]
        for depth in range(4):
            history = [("repeat", MANY, tuple(history))]
        self.assert_answer(run_history((0, 0, 1), history), ((0, 0, 0), 10 ** 120 + 1))

    def test_great_counts_before_and_behind_links(self):
        history = [("repeat", MANY, (2, 3)), ("link", 0, 3), ("repeat", MANY, (2, 3)), 1]
        # 2, then 1 each time, and no cost for the root 3; behind the link 2 is two deep again, and so is 1.
        self.assert_answer(run_history((0, 0, 1, 3), history), ((3, 3, 3, 3), (MANY + 1) + (MANY + 1) + 2))

    def test_each_later_repetition_costs_1_for_each_find_of_no_root(self):
        source = random.Random(3)
        for number in range(300):
            steps = random_steps(source, list(range(8)), 1)
            once, first = run_single_steps(SEVERAL, single_steps(steps))
            each = sum(once[node] != node for node in single_steps(steps))
            for count in [1, 2, 3, 10 ** 9, MANY]:
                wanted = once, first + (count - 1) * each
                self.assert_answer(run_history(SEVERAL, [("repeat", count, tuple(steps))]), wanted)

    def test_against_single_steps(self):
        source = random.Random(4)
        links = [[], [("link", 4, 6)], [("link", 6, 1), ("link", 1, 4)], [("link", 4, 4)], [("link", 3, 6)]]
        for number in range(600):
            nodes = list(range(8)) * 3 + ([8, -1] if number % 3 == 0 else [])
            history = random_steps(source, nodes, 1)
            for part in range(2):
                history += source.choice(links) + random_steps(source, nodes, 1)
            wanted = outcome_of(run_single_steps, SEVERAL, single_steps(history))
            self.assert_answer(outcome_of(run_history, SEVERAL, history), wanted)

    def test_finds_between_links_in_any_order(self):
        for order in itertools.permutations([7, 3, 5, 7, 2]):
            for links in [[("link", 4, 6)], [("link", 1, 4)]]:
                wanted = run_history(SEVERAL, [7, 3, 5, 7, 2, *links, 7, 3, 5, 7, 2])
                self.assert_answer(run_history(SEVERAL, [*order, *links, *order]), wanted)

    def test_no_node(self):
        for bad in [8, -1, -8, MANY, -MANY]:
            for history in [[bad], [7, bad, 99], [("repeat", MANY, (7, bad, 99))], [("repeat", 0, (99,)), bad],
                            [("repeat", 2, (("repeat", 0, (99,)), ("repeat", 1, (bad,)), 99))],
                            [("link", bad, 99)], [("link", 6, bad)], [5, ("link", 1, 6), bad, ("link", 99, 99)]]:
                self.assert_error(NoNode, "node", bad, run_history, SEVERAL, history)
        self.assert_error(NoNode, "node", 0, run_history, (), [0])

    def test_links_that_raise(self):
        self.assert_error(NotRoot, "node", 3, run_history, SEVERAL, [("link", 3, 99)])
        self.assert_error(NotRoot, "node", 3, run_history, SEVERAL, [("link", 6, 3), 99])
        self.assert_error(SameRoot, "node", 6, run_history, SEVERAL, [("link", 6, 6), 99])
        self.assert_error(NotRoot, "node", 6, run_history, SEVERAL, [("link", 6, 1), 7, ("link", 6, 4)])
        self.assert_error(NotRoot, "node", 6, run_history, SEVERAL, [("link", 6, 1), ("link", 1, 6)])
        self.assert_error(NoNode, "node", 99, run_history, SEVERAL, [99, ("link", 6, 6)])

    def test_no_error_from_a_round_with_the_count_0(self):
        history = [("repeat", 0, (99,)), ("repeat", 3, (7, ("repeat", 0, (-1,))))]
        history.append(("repeat", 0, (("repeat", 2, (9,)),)))
        self.assert_answer(run_history(SEVERAL, history), ((4, 1, 1, 1, 4, 0, 6, 1), 5))


class EffectDifferenceTest(ForestCase):
    def test_example(self):
        answers = [effect_difference([1], [1, 1], 3), effect_difference([0], [1], 2)]
        self.assert_answer(answers, [None, None])

    def check_answer(self, one, other, size):
        """The answer against all forests over so many nodes."""
        pairs = [(find_all(forest, one)[0], find_all(forest, other)[0]) for forest in small_forests(size)]
        answer = effect_difference(one, other, size)
        if all(first == second for first, second in pairs):
            self.assertIsNone(answer)
        else:
            self.assert_difference(answer, one, other, size)

    def assert_difference(self, answer, one, other, size):
        self.assertIsInstance(answer, tuple)
        forest, node = answer
        self.assertIsInstance(forest, tuple)
        self.assertEqual(len(forest), size)
        self.assertNotEqual(run_history(forest, one)[0][node], run_history(forest, other)[0][node])

    def test_all_small_forests(self):
        for size in range(5):
            lists = [list(row) for length in range(size + 1) for row in itertools.combinations(range(size), length)]
            for one, other in itertools.product(lists, repeat=2):
                self.check_answer(one, other, size)
                self.check_answer(one + one, other[::-1], size)

    def test_rounds(self):
        same = [
            ([("repeat", MANY, (3, 1))], [1, 3]),
            ([("repeat", 0, (2,)), 1], [1]),
            ([("repeat", 0, (99,)), 1], [("repeat", 2, (1, ("repeat", 0, (-1,))))]),
            ([], [("repeat", MANY, ())]),
        ]
        for one, other in same:
            self.assertIsNone(effect_difference(one, other, 5))
            self.assertIsNone(effect_difference(other, one, 5))
        different = [([("repeat", MANY, (3, 1))], [1]), ([], [4]), ([0, 2], [0, 1]), ([("repeat", 0, (2,))], [2])]
        for one, other in different:
            self.assert_difference(effect_difference(one, other, 5), one, other, 5)
            self.assert_difference(effect_difference(other, one, 5), other, one, 5)

    def test_sizes(self):
        for size in range(3, 41):
            for node in [0, 1, 2, size - 1]:
                self.assert_difference(effect_difference([node], [], size), [node], [], size)
        for size in range(3):
            self.assertIsNone(effect_difference(list(range(size)), [], size))

    def test_no_node(self):
        for size in range(5):
            self.assert_error(NoNode, "node", size, effect_difference, [size], [size], size)
            self.assert_error(NoNode, "node", -1, effect_difference, [size, -1], [-2], size)
            self.assert_error(NoNode, "node", size, effect_difference, [size + 1, size], [-2], size)
            self.assert_error(NoNode, "node", -2, effect_difference, list(range(size)), [size, -2], size)
            self.assert_error(NoNode, "node", size, effect_difference, [], [size + 1, ("repeat", 2, (size,))], size)

    def test_equal_calls(self):
        for one, other in [([4, 1], [0]), ([], [("repeat", 2, (3,))])]:
            wanted = effect_difference(one, other, 6)
            self.assert_answer(effect_difference(one, other, 6), wanted)
            self.assert_answer(effect_difference(as_tuples(one), as_tuples(other), 6), wanted)
            self.assert_answer(effect_difference(as_lists(one), as_lists(other), 6), wanted)


class CountLimitTest(ForestCase):
    def test_limit_is_allowed(self):
        self.assert_answer(count_finds([("repeat", COUNT_LIMIT, (1,))]), COUNT_LIMIT)


if __name__ == "__main__":
    unittest.main()
