"""findforests.documents: texts of stores."""

import itertools
import random
import unittest

from findforests.documents import format_store, parse_store
from findforests.errors import ParseError
from findforests.store import Store
from findforests.syntax import format_forest
from tests.helpers import ForestCase, outcome, random_tree, small_forests, store_with

CHAIN = tuple(max(0, node - 1) for node in range(40))
SIX_ROWS = ["forest a", "forest b -", "forest c - 0 1", "forest d - -", "forest oak 1 -", "forest zzzzzz 2 2 -"]
LETTERS = " -0123456789\nforestabz"


def text_of(rows):
    return "".join(row + "\n" for row in rows)


def wanted_text(forests):
    """The text of a dict of forests, by the rule of the document."""
    return text_of(" ".join(["forest", name, *([format_forest(forests[name])] if forests[name] else [])])
                   for name in sorted(forests))


class FormatTest(ForestCase):
    def test_example(self):
        store = Store()
        store.apply_all([("new", "oak", (0, 0, 2)), ("new", "elm", ())])
        self.assert_answer(format_store(store), "forest elm\nforest oak - 0 -\n")

    def test_empty_store(self):
        self.assert_answer(format_store(Store()), "")

    def test_all_orders(self):
        forests = {"oak": (0, 0, 1), "elm": (), "a": (0,)}
        for names in itertools.permutations(forests):
            store = store_with(**{name: forests[name] for name in names})
            self.assert_answer(format_store(store), "forest a -\nforest elm\nforest oak - 0 1\n")

    def test_steps_total_cost_and_watches_are_not_written(self):
        store = store_with(oak=(0, 0, 0))
        text = format_store(store)
        store.apply_all([("find", "oak", 2), ("new", "elm", ())])
        store.apply(("drop", "elm"))
        store.undo()
        store.redo()
        store.watch("oak", 1)
        self.assert_answer(format_store(store), text)
        self.assert_answer(store.steps(), (3, 0))

    def test_keywords(self):
        store = store_with(oak=(0, 0, 0))
        self.assert_keywords(format_store, store=store)


class ParseTest(ForestCase):
    def assert_wrong_row(self, pos, text):
        self.assert_error(ParseError, "pos", pos, parse_store, text)

    def check_store(self, store):
        """The text of a store is as stated, and gives a store that is equal and new in all that is not written."""
        forests = {name: store.forest_of(name) for name in store.names()}
        text = format_store(store)
        self.assert_answer(text, wanted_text(forests))
        parsed = parse_store(text)
        self.assertIsInstance(parsed, Store)
        self.assertIs(parsed == store, True)
        self.assert_answer({name: parsed.forest_of(name) for name in parsed.names()}, forests)
        self.assert_answer([parsed.steps(), parsed.total_cost(), parsed.watched()], [(0, 0), 0, []])
        self.assert_answer(format_store(parsed), text)

    def test_examples(self):
        self.assert_answer(parse_store("forest elm\nforest oak - 0 -\n").names(), ["elm", "oak"])
        self.assert_wrong_row(1, "forest oak -\nforest elm -\n")

    def test_stores(self):
        self.check_store(Store())
        for size in range(4):
            for forest in small_forests(size):
                self.check_store(store_with(oak=forest))
                self.check_store(store_with(oak=forest, elm=forest, ash=()))

    def test_great_stores(self):
        source = random.Random(71)
        for turn in range(10):
            names = source.sample(["a", "b", "oak", "elm", "zzzzzz", "forest", "ash", "none"], 6)
            self.check_store(store_with(**{name: random_tree(source, 40, 4) for name in names}))
        self.check_store(store_with(a=CHAIN, b=tuple(range(40)), c=()))

    def test_stores_with_a_past(self):
        store = store_with(oak=(0, 0, 1), elm=(0,))
        store.watch("oak", 1)
        store.apply(("find", "oak", 2))
        store.apply(("drop", "elm"))
        store.undo()
        self.check_store(store)

    def test_parsed_store_is_independent(self):
        store = store_with(oak=(0, 0, 1))
        parsed = parse_store(format_store(store))
        parsed.apply(("find", "oak", 2))
        self.assert_answer([store.forest_of("oak"), parsed.forest_of("oak")], [(0, 0, 1), (0, 0, 0)])
        self.assert_answer([store.steps(), parsed.steps()], [(1, 0), (1, 0)])
        parsed.undo()
        self.assert_answer(parsed.forest_of("oak"), (0, 0, 1))
        with self.assertRaises(IndexError):
            parsed.undo()
        self.assert_answer([parsed.watch("oak", 1), store.watched()], [1, []])

    def test_empty_text(self):
        self.assertEqual(parse_store(""), Store())
        for text in ["\n", "\n\n", " ", " \n", "\nforest a\n", "\nforest a"]:
            self.assert_wrong_row(0, text)

    def test_rows_that_are_not_written(self):
        for row in ["", " ", "forest", "forest ", "forest  ", " forest a", "forest a ", "forest  a", "forest a  -",
                    "forest a - ", "Forest a", "forests a", "tree a", "a -", "forest A", "forest a1", "forest abcdefg",
                    "forest -", "forest - 0", "forest a 0", "forest a - 1", "forest a 1 0", "forest a - 00", "forest a -0",
                    "forest a - x", "forest a b", "forest a b -", "forest a\t-", "a", "forest,a", "forest a - -1",
                    "forest a empty", "forest a " + " ".join(["-"] * 41)]:
            for before in range(6):
                rows = [*SIX_ROWS[1:1 + before], row]
                self.assert_wrong_row(before, text_of(rows))
                self.assert_wrong_row(before, text_of([*rows, "forest zzzzzz", "nothing"]))

    def test_rows_removed(self):
        for many in range(7):
            for rows in itertools.combinations(SIX_ROWS, many):
                self.assert_answer(format_store(parse_store(text_of(rows))), text_of(rows))

    def test_rows_doubled(self):
        for place in range(6):
            rows = [*SIX_ROWS[:place + 1], *SIX_ROWS[place:]]
            self.assert_wrong_row(place + 1, text_of(rows))
        self.assert_wrong_row(1, "forest a -\nforest a - -\n")

    def test_rows_exchanged(self):
        for one, other in itertools.combinations(range(6), 2):
            rows = list(SIX_ROWS)
            rows[one], rows[other] = rows[other], rows[one]
            self.assert_wrong_row(one + 1, text_of(rows))

    def test_names_in_order(self):
        for one, other in [("b", "a"), ("b", "aa"), ("ab", "a"), ("oak", "oak"), ("z", "aaaaaa")]:
            self.assert_wrong_row(1, f"forest {one}\nforest {other}\n")
        # A name is compared with the one just before it.
        self.assert_wrong_row(2, "forest a\nforest c\nforest b\n")
        self.assert_answer(parse_store("forest a\nforest aa\nforest b\n").names(), ["a", "aa", "b"])

    def test_rows_inserted(self):
        for place in range(6):
            rows = SIX_ROWS[:5]
            rows.insert(place, "nothing")
            self.assert_wrong_row(min(place, 5), text_of(rows))
            rows[place] = ""
            self.assert_wrong_row(min(place, 5), text_of(rows))

    def test_seventh_row(self):
        self.assert_answer(len(parse_store(text_of(SIX_ROWS))), 6)
        for rest in [["forest zzzzzzz"], ["nothing"], [""]]:
            self.assert_wrong_row(6, text_of([*SIX_ROWS, *rest]))
        rows = [f"forest {letter}" for letter in "abcdefghij"]
        for many in [7, 8, 10]:
            self.assert_wrong_row(6, text_of(rows[:many]))
        self.assert_wrong_row(6, text_of(rows[:7])[:-1])
        self.assert_wrong_row(2, text_of([*rows[:2], "nothing", *rows[2:]]))

    def test_missing_line_feed(self):
        for many in range(1, 7):
            self.assert_wrong_row(many - 1, text_of(SIX_ROWS[:many])[:-1])
        self.assert_wrong_row(0, "forest a")
        self.assert_wrong_row(1, "forest a\nf")
        self.assert_wrong_row(1, "forest a\n ")
        # The first wrong row comes first.
        self.assert_wrong_row(0, "nothing\nforest a")

    def test_changed_texts(self):
        source = random.Random(72)
        text = text_of(SIX_ROWS)
        for turn in range(3000):
            letters = list(text)
            place = source.randrange(len(letters) + 1)
            kind = source.randrange(3)
            letters[place:place + (kind > 0)] = source.choice(LETTERS) if kind < 2 else ""
            changed = "".join(letters)
            kind, answer = outcome(parse_store, [changed], {})
            if kind == "answer":
                self.assert_answer(format_store(parse_store(changed)), changed)
            else:
                self.assert_wrong_row(self.first_wrong(changed), changed)

    def first_wrong(self, text):
        """The index of the first row with which the rows up to it are no text of a store."""
        rows = text.split("\n")
        for many in range(1, len(rows)):
            if outcome(parse_store, [text_of(rows[:many])], {})[0] != "answer":
                return many - 1
        return len(rows) - 1

    def test_keywords(self):
        for text in ["", "forest a\n", "forest a", "x"]:
            self.assert_keywords(parse_store, text=text)


if __name__ == "__main__":
    unittest.main()
