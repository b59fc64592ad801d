"""findforests.console: lines and answers."""

import random
import unittest

from findforests.console import Console
from findforests.documents import format_store
from findforests.store import Store
from findforests.syntax import format_forest
from tests.helpers import ForestCase, random_tree, small_forests, store_with

MANY = 10 ** 30
CHAIN = tuple(max(0, node - 1) for node in range(40))
BAD_INTEGERS = ["x", "01", "+1", "-0", "1.", "--1", "1_0", "0x1", "9" * 32, "-", "1>2", "()", "1\n", "\n"]
# Every form of a line, with words that fit a store with the forests oak and elm.
GOOD_LINES = [
    "new ash - 0", "new ash", "run oak 2*(2 0)", "run oak 2", "find oak 2", "link oak 0 3",
    "unite oak 2 3", "grow oak 1", "copy oak ash", "swap oak elm", "drop oak", "flatten oak", "undo", "redo", "names",
    "total", "show oak", "root oak 2", "depth oak 2", "distance oak oak",
]


def console_with(**forests):
    """A console whose store has these forests."""
    return Console(store=store_with(**forests))


def some_console():
    """A console with two forests, and steps to undo and to redo."""
    console = console_with(oak=(0, 0, 1, 3), elm=())
    console.store().apply(("find", "oak", 1))
    console.store().apply_all([])
    console.store().undo()
    return console


def view(console):
    """What a store tells of itself, as something that can be compared."""
    store = console.store()
    return format_store(store), store.total_cost(), store.steps(), store.watched()


class ConsoleCase(ForestCase):
    def assert_answers(self, console, *pairs):
        """Lines one after another, each with its answer."""
        for line, answer in pairs:
            self.assert_answer(console.answer(line), answer)

    def assert_idle(self, console, line, answer):
        """The answer, and nothing is changed."""
        before = view(console)
        store = console.store()
        self.assert_answer(console.answer(line), answer)
        self.assertEqual(view(console), before)
        self.assertIs(console.store(), store)


class ExampleTest(ConsoleCase):
    def test_examples(self):
        self.assert_answer(Console().answer("names"), "none")
        console = Console()
        self.assert_answer(console.answer("new oak - 0"), "0")
        self.assert_answer(console.store().names(), ["oak"])
        self.assert_answers(Console(), ("new oak - 0 1", "0"), ("run oak 2*(2 0)", "3"), ("show oak", "- 0 0"),
                            ("drop elm", "error NoForest"), ("show  oak", "invalid"))

    def test_methods_stand_in_the_class(self):
        for name in ["store", "answer", "__init__"]:
            self.assertIn(name, Console.__dict__)


class CommandTest(ConsoleCase):
    def test_new(self):
        for forest in [(), (0,), (1, 1), CHAIN, *small_forests(3)]:
            console = Console()
            line = " ".join(["new", "oak", *format_forest(forest).split()])
            self.assert_answer(console.answer(line), "0")
            self.assert_answer(console.store().forest_of("oak"), forest)

    def test_errors_of_new(self):
        console = console_with(a=(), b=(), c=(), d=(), e=())
        for name in ["Oak", "abcdefg", "oak1", "-", "0", "oak\n"]:
            self.assert_idle(console, f"new {name} - 0", "error BadName")
            self.assert_idle(console, f"new {name}", "error BadName")
        self.assert_idle(console, "new a -", "error NameTaken")
        self.assert_answers(console, ("new f", "0"), ("new g", "error TooManyForests"), ("new a", "error NameTaken"))

    def test_texts_that_are_no_forests(self):
        console = some_console()
        for text in ["0", "- 1", "1 0", "- 00", "- -0", "- x", " ".join(["-"] * 41), "- 5", "-1", "-\n", "empty", "- 0\n"]:
            # Also where the name would be an error.
            for name in ["ash", "oak", "Bad", "abcdefg"]:
                self.assert_idle(console, f"new {name} {text}", "invalid")

    def test_run(self):
        console = console_with(oak=(0, 0, 1, 3))
        self.assert_answers(console, ("run oak 2", "2"), ("show oak", "- 0 0 -"), ("run oak 2 2", "2"),
                            ("run oak 0>3 1 5*(2 0)", "13"), ("show oak", "3 3 3 -"), ("total", "17"),
                            (f"run oak {MANY}*(1)", str(MANY)), ("run oak 0*(99)", "0"), ("run oak 3*()", "0"))

    def test_errors_of_run(self):
        console = some_console()
        self.assert_idle(console, "run ash 99", "error NoForest")
        self.assert_idle(console, "run oak 99", "error NoNode")
        self.assert_idle(console, "run oak -1", "error NoNode")
        self.assert_idle(console, "run oak 1 1>0", "error NotRoot")
        self.assert_idle(console, "run oak 0>0", "error SameRoot")
        for text in ["2*(0>3)", "2*(1", "1)", "01", "1 >2", "2*( 1)", "x", "-1*(1)", " ".join(["1"] * 101), "1\n",
                     "2*(2*(2*(2*(2*(1)))))", f"{MANY + 1}*(1)", "2*(" * 900, "2*(" * 900 + ")" * 900]:
            for name in ["oak", "ash", "Bad"]:
                self.assert_idle(console, f"run {name} {text}", "invalid")
        # A history without steps cannot be written in a line.
        self.assert_idle(console, "run oak", "invalid")
        self.assert_idle(console, "run ash", "invalid")

    def test_find_link_unite_grow(self):
        console = console_with(oak=(0, 0, 1, 2))
        self.assert_answers(console, ("find oak 3", "3"), ("show oak", "- 0 0 0"), ("find oak 0", "0"),
                            ("grow oak 2", "0"), ("show oak", "- 0 0 0 - -"), ("link oak 4 5", "0"),
                            ("show oak", "- 0 0 0 5 -"), ("unite oak 3 4", "2"), ("show oak", "5 0 0 0 5 -"),
                            ("unite oak 3 4", "3"), ("show oak", "5 0 0 5 5 -"), ("grow oak 0", "0"), ("total", "8"))

    def test_errors_of_numbers(self):
        console = some_console()
        for number in ["4", "-1", str(MANY), str(-MANY)]:
            for line in [f"find oak {number}", f"link oak {number} 0", f"link oak 0 {number}", f"unite oak {number} 0",
                         f"unite oak 0 {number}", f"root oak {number}", f"depth oak {number}"]:
                self.assert_idle(console, line, "error NoNode")
            for line in [f"find ash {number}", f"link ash {number} 0", f"unite ash 0 {number}", f"grow ash {number}",
                         f"root ash {number}", f"depth ash {number}"]:
                self.assert_idle(console, line, "error NoForest")
        self.assert_idle(console, "link oak 1 0", "error NotRoot")
        self.assert_idle(console, "link oak 0 2", "error NotRoot")
        self.assert_idle(console, "link oak 3 3", "error SameRoot")
        self.assert_idle(console, "grow oak -1", "error BadCount")
        self.assert_idle(console, "grow oak 37", "error TooManyNodes")
        self.assert_idle(console, "grow elm 41", "error TooManyNodes")

    def test_words_that_are_no_integers(self):
        console = some_console()
        for number in BAD_INTEGERS:
            for name in ["oak", "ash", "Bad"]:
                for line in [f"find {name} {number}", f"link {name} {number} 0", f"link {name} 0 {number}",
                             f"unite {name} {number} 0", f"unite {name} 99 {number}", f"grow {name} {number}",
                             f"root {name} {number}", f"depth {name} {number}"]:
                    self.assert_idle(console, line, "invalid")

    def test_copy_swap_drop_flatten(self):
        console = console_with(oak=(0, 0, 1, 1))
        self.assert_answers(console, ("copy oak elm", "0"), ("flatten elm", "4"), ("flatten elm", "0"),
                            ("swap oak elm", "0"), ("show oak", "- 0 0 0"), ("show elm", "- 0 1 1"),
                            ("swap oak oak", "0"), ("drop oak", "0"), ("names", "elm"), ("total", "4"))

    def test_errors_of_names(self):
        console = some_console()
        for line in ["drop ash", "drop Bad", "flatten ash", "copy ash oak", "copy ash Bad", "swap ash oak", "swap oak ash",
                     "show ash", "distance ash oak", "distance oak ash", "distance ash fir", "drop 0", "drop -"]:
            self.assert_idle(console, line, "error NoForest")
        self.assert_idle(console, "copy oak Bad", "error BadName")
        self.assert_idle(console, "copy oak abcdefg", "error BadName")
        self.assert_idle(console, "copy oak elm", "error NameTaken")
        self.assert_idle(console, "copy oak oak", "error NameTaken")
        full = console_with(a=(), b=(), c=(), d=(), e=(), f=())
        self.assert_idle(full, "copy a g", "error TooManyForests")

    def test_undo_and_redo(self):
        console = Console()
        self.assert_idle(console, "undo", "error EmptyHistory")
        self.assert_idle(console, "redo", "error EmptyHistory")
        self.assert_answers(console, ("new oak - 0 1", "0"), ("find oak 2", "2"), ("undo", "ok"), ("show oak", "- 0 1"),
                            ("total", "0"), ("redo", "ok"), ("show oak", "- 0 0"), ("total", "2"), ("undo", "ok"),
                            ("undo", "ok"), ("names", "none"), ("undo", "error EmptyHistory"), ("redo", "ok"),
                            ("redo", "ok"), ("redo", "error EmptyHistory"), ("undo", "ok"), ("find oak 1", "1"),
                            ("redo", "error EmptyHistory"), ("total", "1"))


class QuestionTest(ConsoleCase):
    def test_names_and_total(self):
        console = Console()
        self.assert_answers(console, ("names", "none"), ("total", "0"), ("new oak", "0"), ("names", "oak"),
                            ("new elm -", "0"), ("new none", "0"), ("names", "elm none oak"))

    def test_show(self):
        source = random.Random(81)
        for forest in [(0,), (1, 1), CHAIN, random_tree(source, 40, 4), *small_forests(3)]:
            self.assert_idle(console_with(oak=forest), "show oak", format_forest(forest))
        self.assert_idle(console_with(oak=()), "show oak", "empty")

    def test_root_and_depth(self):
        console = console_with(oak=(0, 0, 1, 4, 4))
        for node, root, depth in [(0, 0, 0), (1, 0, 1), (2, 0, 2), (3, 4, 1), (4, 4, 0)]:
            self.assert_idle(console, f"root oak {node}", str(root))
            self.assert_idle(console, f"depth oak {node}", str(depth))
        self.assert_idle(console_with(oak=()), "root oak 0", "error NoNode")

    def test_distance(self):
        console = console_with(oak=(0, 0, 1, 1), elm=(0, 0, 0, 0), ash=(0, 0, 0), fir=(0, 0, 2, 0), yew=(0, 0, 1, 2))
        self.assert_idle(console, "distance oak elm", "2")
        self.assert_idle(console, "distance oak oak", "0")
        self.assert_idle(console, "distance oak ash", "error SizesDiffer")
        self.assert_idle(console, "distance oak fir", "error RootsDiffer")
        self.assert_idle(console, "distance elm oak", "error NoWay")


class FormTest(ConsoleCase):
    def test_good_lines(self):
        for line in GOOD_LINES:
            answer = some_console().answer(line)
            self.assertNotEqual(answer, "invalid", line)
            self.assertFalse(answer.startswith("error"), line)

    def test_empty_words(self):
        for line in ["", " ", "  ", *[line.replace(" ", "  ") for line in GOOD_LINES if " " in line],
                     *[line + " " for line in GOOD_LINES], *[" " + line for line in GOOD_LINES]]:
            self.assert_idle(some_console(), line, "invalid")

    def test_each_space_doubled(self):
        for line in GOOD_LINES:
            for place, letter in enumerate(line):
                if letter == " ":
                    self.assert_idle(some_console(), line[:place] + " " + line[place:], "invalid")

    def test_too_many_words(self):
        for line in GOOD_LINES:
            # Behind these, more words can be a part of the text.
            if line.split(" ")[0] not in ["new", "run"]:
                for more in ["0", "oak", "x", "-"]:
                    self.assert_idle(some_console(), f"{line} {more}", "invalid")

    def test_too_few_words(self):
        for line in GOOD_LINES:
            words = line.split(" ")
            for many in range(1, len(words)):
                shorter = " ".join(words[:many])
                if not (words[0] == "new" and many > 1) and not (words[0] == "run" and many > 2):
                    self.assert_idle(some_console(), shorter, "invalid")

    def test_other_first_words(self):
        for line in GOOD_LINES:
            word, *rest = line.split(" ")
            for other in [word.upper(), word.title(), word + "s", word[1:], word + "\n", "\n" + word, "x" + word]:
                self.assert_idle(some_console(), " ".join([other, *rest]), "invalid")
        for line in ["plant oak", "help", "oak", "steps", "watch oak 1", "news", "clone", "forest oak -", "forest_of oak",
                     "0", "-", "\n", "apply undo", "error NoForest", "invalid", "ok", "quit"]:
            self.assert_idle(some_console(), line, "invalid")

    def test_invalid_before_errors(self):
        # Each of these lines would also raise an error if it were of a right form.
        for line in ["undo oak", "redo 1", "drop ash elm", "find ash x", "find ash", "copy ash", "swap ash", "show",
                     "distance ash", "root ash", "root ash 1 2", "new oak 5", "run ash 2*(0>1)", "grow ash", "names ash"]:
            self.assert_idle(Console(), line, "invalid")

    def test_line_feeds_in_lines(self):
        for line in ["names\n", "undo\n", "find oak 1\n", "names\nnames", "total\n"]:
            self.assert_idle(some_console(), line, "invalid")

    def test_long_lines(self):
        for line in ["x" * 4000, " " * 4000, "new oak " + "- " * 1900 + "-", "run oak " + "(" * 3900]:
            self.assert_idle(some_console(), line, "invalid")
        self.assert_idle(some_console(), "drop " + "a" * 3900, "error NoForest")


class StoreTest(ConsoleCase):
    def test_the_very_store(self):
        store = Store()
        console = Console(store=store)
        self.assertIs(console.store(), store)
        store.apply(("new", "oak", (0, 0, 1)))
        self.assert_answers(console, ("show oak", "- 0 1"), ("find oak 2", "2"))
        self.assert_answer([store.forest_of("oak"), store.total_cost(), store.steps()], [(0, 0, 0), 2, (2, 0)])
        store.undo()
        self.assert_answers(console, ("show oak", "- 0 1"), ("redo", "ok"), ("show oak", "- 0 0"))
        self.assertIs(console.store(), store)

    def test_two_consoles_with_one_store(self):
        store = Store()
        one, other = Console(store=store), Console(store=store)
        self.assert_answers(one, ("new oak -", "0"))
        self.assert_answers(other, ("names", "oak"), ("undo", "ok"))
        self.assert_answers(one, ("names", "none"))

    def test_a_new_store_for_each_console(self):
        one, other, third = Console(), Console(store=None), Console()
        one.answer("new oak -")
        self.assert_answers(other, ("names", "none"))
        self.assert_answers(third, ("names", "none"))
        self.assertIsNot(one.store(), third.store())
        self.assertIsInstance(third.store(), Store)
        self.assertIs(one.store(), one.store())

    def test_watches_of_the_store(self):
        console = console_with(oak=(0, 0, 1))
        console.store().watch("oak", 2)
        console.answer("find oak 2")
        self.assert_answer(console.store().news(), [(1, (0, 1))])
        console.answer("undo")
        self.assert_answer(console.store().news(), [(1, (0, 2))])

    def test_keywords(self):
        for line in ["names", "x", "drop oak"]:
            self.assert_keywords(Console().answer, line=line)
        with self.assertRaises(TypeError):
            Console(Store())


if __name__ == "__main__":
    unittest.main()
