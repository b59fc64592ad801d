"""The whole interface: names, arguments, constants, and every example of the document."""

import ast
import importlib
import inspect
import pathlib
import re
import unittest

from tests.helpers import ForestCase

# A copy of the examples of the document, one block each.
EXAMPLES = pathlib.Path(__file__).resolve().parent / "examples.txt"
SIGNATURES = {
    "forests": [
        "check_forest(parents)", "is_forest(parents)", "single_nodes(size)", "path_of(forest, node)",
        "root_of(forest, node)", "depth_of(forest, node)", "all_depths(forest)", "is_above(forest, one, other)",
        "roots_of(forest)", "children_of(forest, node)", "subtree_of(forest, node)", "height_of(forest)",
    ],
    "finds": [
        "find(forest, node)", "find_all(forest, nodes)", "link(forest, child, above)", "unite(forest, one, other)",
        "marked_nodes(forest, nodes)", "forest_after(forest, nodes)", "total_cost(forest, nodes)",
    ],
    "histories": [
        "check_history(history)", "count_finds(history)", "found_nodes(history)", "epochs(history)",
        "unroll(history, *, limit=1000)", "run_history(forest, history)", "effect_difference(one, other, size)",
    ],
    "ways": [
        "changed_nodes(one, other)", "find_bar(one, other)", "bar_holds(one, other, bar)", "needed_finds(one, other)",
        "is_needed(one, other, node)", "count_ways(one, other)", "way_cost(one, other)", "deep_nodes(forest)",
        "flattened(forest)", "flattening_finds(forest)", "same_trees(one, other)",
    ],
    "counts": [
        "power_of(base, exponent)", "falling(size, chosen)", "binomial(size, chosen)", "count_trees(size)",
        "count_forests(size, *, roots=1)", "all_forests(size)", "all_trees(size)",
    ],
    "logs": [
        "log_of(forest, nodes)", "count_hidden(size, log)", "find_hidden(size, log)", "next_costs(size, log, node)",
    ],
    "papers": ["log_paper(size, log)", "log_paper_holds(size, log, paper)"],
    "observer": [
        "Observer(size)", "Observer.observe(node, *, cost=0)", "Observer.undo()", "Observer.redo()",
        "Observer.node_count()", "Observer.observed()", "Observer.trees_left()", "Observer.example()",
        "Observer.forecast(node)", "Observer.certain_nodes()", "Observer.twin()",
    ],
    "means": ["mean_total(forest, times, *, weights=None)", "most_total(forest, times)"],
    "store": [
        "is_name(text)", "Store()", "Store.apply(command)", "Store.apply_all(commands)", "Store.undo()", "Store.redo()",
        "Store.names()", "Store.forest_of(name)", "Store.total_cost()", "Store.steps()", "Store.distance(name, other)",
        "Store.watch(name, node)", "Store.unwatch(number)", "Store.watched()", "Store.news()", "Store.clone()",
    ],
    "syntax": ["format_forest(forest)", "parse_forest(text)", "format_history(history)", "parse_history(text)"],
    "documents": ["format_store(store)", "parse_store(text)"],
    "console": ["Console(*, store=None)", "Console.store()", "Console.answer(line)"],
}
CONSTANTS = {
    "forests": {"MAX_NODES": 40},
    "histories": {"MAX_STEPS": 100, "MAX_NESTING": 4, "COUNT_LIMIT": 10 ** 30, "UNROLL_LIMIT": 1000},
    "counts": {"MAX_SIZE": 60, "MAX_LISTED": 5},
    "logs": {"MAX_LOG_NODES": 20, "MAX_LOG": 60},
    "means": {"MAX_WEIGHT": 1000, "MAX_TIMES": 20},
    "store": {"MAX_FORESTS": 6, "MAX_WATCHES": 6},
}


def module_of(name):
    return importlib.import_module(f"findforests.{name}")


def blocks():
    """The examples, each as its statements and what is shown for the last one."""
    for block in EXAMPLES.read_text().strip().split("\n\n"):
        *calls, shown = block.split("\n")
        yield [call.removeprefix(">>> ") for call in calls], shown


class SignatureTest(ForestCase):
    def test_functions_and_methods(self):
        for name, rows in SIGNATURES.items():
            for row in rows:
                path, wanted = row.split("(", 1)
                place, *method = path.split(".")
                found = getattr(module_of(name), place)
                self.assertEqual(found.__module__, f"findforests.{name}", row)
                parameters = inspect.signature(found)
                if method:
                    # The method stands in the class itself, behind the object's own parameter.
                    parameters = inspect.signature(found.__dict__[method[0]])
                    first, *rest = parameters.parameters.values()
                    self.assertEqual(first.name, "self")
                    parameters = parameters.replace(parameters=rest)
                self.assertEqual(str(parameters), "(" + wanted, row)

    def test_constants(self):
        for name, rows in CONSTANTS.items():
            for constant, wanted in rows.items():
                self.assert_answer(getattr(module_of(name), constant), wanted)

    def test_all_modules_are_here(self):
        folder = EXAMPLES.parent.parent / "findforests"
        modules = sorted(path.stem for path in folder.glob("*.py"))
        self.assertEqual(modules, sorted(["__init__", "errors", *SIGNATURES]))


class ExampleTest(ForestCase):
    def check_block(self, calls, shown):
        names = {}
        for call in calls[:-1]:
            exec(call, names)
        raised = re.fullmatch(r"raises (\w+)(?:\((\w+)=(.+)\))?", shown)
        if not raised:
            self.assertEqual(repr(eval(calls[-1], names)), shown)
            return
        kind = getattr(module_of("errors"), raised[1])
        if raised[2]:
            self.assert_error(kind, raised[2], ast.literal_eval(raised[3]), eval, calls[-1], names)
        else:
            self.assertRaises(kind, eval, calls[-1], names)

    def test_every_example(self):
        for calls, shown in blocks():
            with self.subTest(calls[-1]):
                self.check_block(calls, shown)

    def test_there_is_an_example_for_every_name(self):
        text = EXAMPLES.read_text()
        for rows in SIGNATURES.values():
            for row in rows:
                self.assertIn(re.split(r"[.(]", row.replace("Observer.", "").replace("Store.", ""))[0], text)
        self.assertEqual(len(list(blocks())), 98)


if __name__ == "__main__":
    unittest.main()
