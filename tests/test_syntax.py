"""findforests.syntax: texts of forests and histories."""

import itertools
import random
import re
import unittest

from findforests.errors import BadStep, ParseError, TooLong
from findforests.syntax import format_forest, format_history, parse_forest, parse_history
from tests.helpers import ForestCase, outcome, random_tree, small_forests

MANY = 10 ** 30
CHAIN = tuple(max(0, node - 1) for node in range(40))
LETTERS = " -0123456789>*()\nabx+_."
INTEGER = "(?:0|-?[1-9][0-9]{0,30})"
COUNT = "(?:0|[1-9][0-9]{0,30})"
INNER = re.compile(rf"(?<![^ (]){COUNT}\*\((?:(?:{INTEGER}|R)(?: (?:{INTEGER}|R))*)?\)(?![^ )])")
OUTER = re.compile(rf"(?:(?:{INTEGER}(?:>{INTEGER})?|R)(?: (?:{INTEGER}(?:>{INTEGER})?|R))*)?")
HISTORIES = [
    ([], ""),
    ([5], "5"),
    ([0, -1, -MANY, MANY], f"0 -1 -{MANY} {MANY}"),
    ([("link", 0, 2)], "0>2"),
    ([("link", -3, -MANY)], f"-3>-{MANY}"),
    ([("repeat", 0, ())], "0*()"),
    ([("repeat", MANY, (1, -1))], f"{MANY}*(1 -1)"),
    ([5, ("link", 0, 2), ("repeat", 3, (2, 4)), ("repeat", 0, ())], "5 0>2 3*(2 4) 0*()"),
    ([("repeat", 1, (("repeat", 2, (("repeat", 3, (("repeat", 4, (5,)),)),)),))], "1*(2*(3*(4*(5))))"),
    ([("repeat", 1, (0, ("repeat", 2, ()), 0)), 7, ("repeat", 1, (("repeat", 0, ()), ("repeat", 9, (8,))))],
     "1*(0 2*() 0) 7 1*(0*() 9*(8))"),
]


def is_history_text(text):
    """Whether a short text is that of a history, by patterns: rounds are replaced by a letter from the inside."""
    if "R" in text:
        return False
    for depth in range(4):
        text = INNER.sub("R", text)
    counts = re.findall(r"([0-9]+)\*", text)
    return OUTER.fullmatch(text) is not None and not counts


def great_counts(text):
    return [count for count in re.findall(r"([0-9]+)\*", text) if int(count) > MANY]


def changed_texts(source, text, many):
    """Texts with one or two characters changed, added or removed."""
    for turn in range(many):
        letters = list(text)
        for change in range(source.randint(1, 2)):
            place = source.randrange(len(letters) + 1)
            kind = source.randrange(3)
            letters[place:place + (kind > 0)] = source.choice(LETTERS) if kind < 2 else ""
        yield "".join(letters)


class SyntaxCase(ForestCase):
    def assert_unparsed(self, call, text):
        self.assert_error(ParseError, "pos", 0, call, text)

    def check_text(self, call, write, text, valid):
        """A valid text is parsed to what it is written for, another one raises the error."""
        if valid:
            self.assert_answer(write(call(text)), text)
        else:
            self.assert_unparsed(call, text)


class ForestTextTest(SyntaxCase):
    def test_examples(self):
        self.assert_answer(format_forest((0, 0, 1, 3)), "- 0 1 -")
        self.assert_answer(parse_forest("- 0 1 -"), (0, 0, 1, 3))
        self.assert_unparsed(parse_forest, "0 0")

    def test_all_small_forests(self):
        texts = []
        for size in range(4):
            for forest in small_forests(size):
                words = ["-" if parent == node else f"{parent}" for node, parent in enumerate(forest)]
                self.assert_answer(format_forest(forest), " ".join(words))
                self.assert_answer(parse_forest(" ".join(words)), forest)
                texts.append(" ".join(words))
        self.assertEqual(len(set(texts)), 1 + 1 + 3 + 16)

    def test_all_short_texts(self):
        valid = {format_forest(forest) for size in range(4) for forest in small_forests(size)}
        for length in range(7):
            for letters in itertools.product("- 012", repeat=length):
                text = "".join(letters)
                self.check_text(parse_forest, format_forest, text, text in valid)

    def test_great_forests(self):
        source = random.Random(51)
        for forest in [CHAIN, tuple(range(40)), (39,) * 40, *[random_tree(source, 40, 5) for turn in range(20)]]:
            text = format_forest(forest)
            self.assert_answer(parse_forest(text), forest)
            self.assertEqual(len(text.split(" ")), 40)

    def test_too_many_nodes(self):
        self.assert_answer(parse_forest(" ".join(["-"] * 40)), tuple(range(40)))
        for many in [41, 42, 200, 2000]:
            self.assert_unparsed(parse_forest, " ".join(["-"] * many))
            self.assert_unparsed(parse_forest, " ".join(["-"] + ["0"] * (many - 1)))

    def test_no_forests(self):
        for text in ["0", "- 1", "1 0", "1 2 0", "- 2", "- -1", "- 5", f"- {MANY}", "- 2 1", "1 - 2", "- 0 2"]:
            self.assert_unparsed(parse_forest, text)

    def test_other_ways_to_write(self):
        for text in [" ", "- ", " -", "-  0", "- 0 ", " - 0", "-\n0", "- 0\n", "\n", "\n- 0", "- 00", "- +0", "- -0",
                     "- 0.", "- 0,", "-,0", "-0", "--", "- x", "- 0x0", "- 0_0", "*", "_", ". 0", "- 0 01", "- (0)"]:
            self.assert_unparsed(parse_forest, text)

    def test_leading_zeros_of_a_node_above_nine(self):
        text = format_forest(CHAIN)
        self.assertIn(" 7 ", text)
        self.assert_unparsed(parse_forest, text.replace(" 7 ", " 07 "))
        self.assert_unparsed(parse_forest, text.replace(" 17 ", " 017 "))
        self.assert_unparsed(parse_forest, text.replace(" 17 ", " " + "0" * 40 + "17 "))

    def test_changed_texts(self):
        source = random.Random(52)
        for forest in [(0,), (0, 0, 1, 3), (2, 2, 2), CHAIN, random_tree(source, 40, 4), random_tree(source, 12, 4)]:
            for text in changed_texts(source, format_forest(forest), 400):
                kind, answer = outcome(parse_forest, [text], {})
                if kind == "answer":
                    self.assert_answer(format_forest(parse_forest(text)), text)
                else:
                    self.assert_unparsed(parse_forest, text)

    def test_changed_words(self):
        source = random.Random(53)
        valid = {format_forest(forest) for forest in small_forests(4)}
        valid |= {format_forest(forest) for forest in small_forests(3)} | {format_forest(f) for f in small_forests(5)}
        for forest in small_forests(4):
            for turn in range(5):
                words = format_forest(forest).split(" ")
                place = source.randrange(5)
                kind = source.randrange(3)
                word = source.choice(["-", "0", "1", "2", "3", "4", "-1", "00", "", "9"])
                words[place:place + (kind > 0)] = [word] if kind < 2 else []
                text = " ".join(words)
                self.check_text(parse_forest, format_forest, text, text in valid)

    def test_long_integers(self):
        for text in ["- " + "1" * 31, "- " + "1" * 32, "- " + "9" * 3990, "- " + "0" * 3990]:
            self.assert_unparsed(parse_forest, text)

    def test_keywords(self):
        for forest in [(), (0,), CHAIN]:
            self.assert_keywords(format_forest, forest=forest)
        for text in ["", "-", "- 0", "0", " "]:
            self.assert_keywords(parse_forest, text=text)


class HistoryTextTest(SyntaxCase):
    def test_examples(self):
        history = [5, ("link", 0, 2), ("repeat", 3, (2, 4)), ("repeat", 0, ())]
        self.assert_answer(format_history(history), "5 0>2 3*(2 4) 0*()")
        self.assert_answer(parse_history("5 0>2 3*(2 4)"), [5, ("link", 0, 2), ("repeat", 3, (2, 4))])
        self.assert_unparsed(parse_history, "2*(1>0)")

    def test_pairs(self):
        for history, text in HISTORIES:
            self.assertTrue(is_history_text(text))
            self.assert_answer(format_history(history), text)
            self.assert_answer(format_history(tuple(history)), text)
            self.assert_answer(parse_history(text), history)

    def test_lists_in_rounds(self):
        history = [("repeat", 2, [1, ("repeat", 3, [4, 5]), ("repeat", 0, [])])]
        self.assert_answer(format_history(history), "2*(1 3*(4 5) 0*())")
        self.assertEqual(history, [("repeat", 2, [1, ("repeat", 3, [4, 5]), ("repeat", 0, [])])])

    def test_errors_of_check_history(self):
        self.assert_error(TooLong, "limit", 100, format_history, [1] * 101)
        self.assert_error(TooLong, "limit", 100, format_history, [("repeat", 1, [1] * 100)])
        for pos, history in [(0, [()]), (1, [1, ("link", 1)]), (1, [("repeat", 2, (("link", 1, 0),))]),
                             (0, [("repeat", -1, ())]), (0, [("repeat", MANY + 1, ())]), (0, [("other", 1, 2)]),
                             (4, [("repeat", 1, [("repeat", 1, [("repeat", 1, [("repeat", 1, [("repeat", 1, [])])])])])])]:
            self.assert_error(BadStep, "pos", pos, format_history, history)
        self.assert_answer(format_history([1] * 100), " ".join(["1"] * 100))

    def test_all_short_texts(self):
        for letters, longest in [("1 *()", 6), ("10>- ", 6), ("2-*() >", 5)]:
            for length in range(longest + 1):
                for row in itertools.product(letters, repeat=length):
                    text = "".join(row)
                    self.check_text(parse_history, format_history, text, is_history_text(text))

    def test_all_texts_of_short_parts(self):
        parts = ["1", "0", ">", "2*(", ")", " ", "3"]
        for length in range(6):
            for row in itertools.product(parts, repeat=length):
                text = "".join(row)
                self.check_text(parse_history, format_history, text, is_history_text(text))

    def test_changed_texts(self):
        source = random.Random(54)
        for history, text in HISTORIES:
            for changed in changed_texts(source, text, 500):
                valid = is_history_text(changed) and not great_counts(changed)
                self.check_text(parse_history, format_history, changed, valid)

    def test_other_ways_to_write(self):
        for text in [" ", "\n", "1 ", " 1", "1  2", "1\n2", "1\n", "01", "+1", "-0", "00", "--1", "1.", "1,2", "x", "1_0",
                     "1 >2", "1> 2", "1 > 2", "1>", ">1", ">", "1>2>3", "1>>2", "01>2", "1>02", "1>-0", "+1>2",
                     "2 *(1)", "2* (1)", "2*( 1)", "2*(1 )", "2*( )", "2*(1)3", "2*(1)3*(2)", "3 2*(1)4", "*(1)", "(1)",
                     "2*1", "2(1)", "2*(1", "2*1)", "1)", ")", "(", "()", "*", "*()", "2*()()", "2*(())", "-1*(1)",
                     "02*(1)", "-0*(1)", "+2*(1)", "2*(1))", "2*((1)", "2*(1>0)", "2*(3*(1>0))", "1>2*(3)", "2*[1]",
                     "repeat", "link", "2*(1),3"]:
            self.assert_unparsed(parse_history, text)

    def test_digits(self):
        nines = "9" * 31
        self.assert_answer(parse_history(nines), [int(nines)])
        self.assert_answer(parse_history("-" + nines), [-int(nines)])
        self.assert_answer(parse_history(f"{nines}>-{nines}"), [("link", int(nines), -int(nines))])
        for text in ["9" * 32, "-" + "9" * 32, "1" + "0" * 31, "0" * 32, "0" * 31, "9" * 3999, f"{'9' * 32}>1",
                     f"1>{'9' * 32}", f"2*({'9' * 32})", f"{'9' * 32}*(1)", "0" * 31 + "1"]:
            self.assert_unparsed(parse_history, text)

    def test_counts(self):
        for count in [0, 1, 9, 10, 10 ** 29, MANY - 1, MANY]:
            self.assert_answer(parse_history(f"{count}*(1)"), [("repeat", count, (1,))])
        for count in [MANY + 1, 2 * MANY, 9 * MANY, 10 * MANY, -1, -MANY]:
            self.assert_unparsed(parse_history, f"{count}*(1)")
            self.assert_unparsed(parse_history, f"2*({count}*())")

    def test_numbers_of_steps(self):
        self.assert_answer(parse_history(" ".join(["7"] * 100)), [7] * 100)
        self.assert_unparsed(parse_history, " ".join(["7"] * 101))
        self.assert_unparsed(parse_history, " ".join(["7"] * 2000))
        inner = " ".join(["7"] * 99)
        self.assert_answer(parse_history(f"2*({inner})"), [("repeat", 2, (7,) * 99)])
        self.assert_unparsed(parse_history, f"2*({inner} 7)")
        self.assert_unparsed(parse_history, f"2*({inner}) 7")
        self.assert_answer(len(parse_history(" ".join(["2*()"] * 100))), 100)
        self.assert_unparsed(parse_history, " ".join(["2*()"] * 101))
        self.assert_answer(len(parse_history(" ".join(["1>2"] * 100))), 100)
        self.assert_unparsed(parse_history, " ".join(["1>2"] * 101))

    def test_nesting(self):
        for depth in range(1, 5):
            text = "2*(" * depth + "1" + ")" * depth
            self.assert_answer(format_history(parse_history(text)), text)
            text = "2*(" * depth + ")" * depth
            self.assert_answer(format_history(parse_history(text)), text)
        for depth in [5, 6, 30, 300, 999]:
            for inner in ["1", ""]:
                self.assert_unparsed(parse_history, "2*(" * depth + inner + ")" * depth)
                self.assert_unparsed(parse_history, "2*(" * depth + inner + ")" * (depth - 1))
                self.assert_unparsed(parse_history, "2*(" * (depth - 1) + inner + ")" * depth)
        for text in ["2*(" * 1333, "(" * 4000, ")" * 4000, "*(" * 2000, "2*( " * 1000, "2*(1 " * 800, "()" * 2000]:
            self.assert_unparsed(parse_history, text)

    def test_kinds_of_a_parsed_history(self):
        history = parse_history("1 2*(3 4*(5))")
        self.assertIs(history.__class__, list)
        self.assertIs(history[1].__class__, tuple)
        self.assertIs(history[1][2].__class__, tuple)
        self.assertIs(history[1][2][1][2].__class__, tuple)
        self.assert_fresh(parse_history, "1 2*(3 4*(5))")
        self.assert_fresh(parse_history, "")

    def test_keywords(self):
        for history, text in [*HISTORIES, ([()], "x"), ([1] * 101, " ")]:
            self.assert_keywords(format_history, history=history)
            self.assert_keywords(parse_history, text=text)


if __name__ == "__main__":
    unittest.main()
