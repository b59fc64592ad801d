"""findforests.counts: numbers of choices, trees and forests, and the lists of the small ones."""

import itertools
import math
import unittest

from findforests import counts
from findforests.counts import (
    all_forests, all_trees, binomial, count_forests, count_trees, falling, power_of,
)
from findforests.errors import BadSize, TooManyNodes
from tests.helpers import ForestCase, small_forests, small_trees

MANY = 10 ** 30


class PowerTest(ForestCase):
    def test_example(self):
        self.assert_answer([power_of(3, 4), power_of(0, 0)], [81, 1])

    def test_bases_and_exponents(self):
        for base in [0, 1, 2, 7, 60, MANY, -1, -2, -3, -MANY]:
            for exponent in [0, 1, 2, 3, 59, 199, 200]:
                # Numbers with more than 4300 digits cannot be written as text.
                self.assertEqual(power_of(base, exponent), base ** exponent)

    def test_somewhat_beyond(self):
        self.assert_answer(power_of(2, 250), 2 ** 250)

    def test_keywords(self):
        self.assert_keywords(power_of, base=3, exponent=4)
        self.assert_keywords(power_of, base=-2, exponent=5)


class ChoicesTest(ForestCase):
    def test_examples(self):
        self.assert_answer([falling(5, 2), falling(2, 3), falling(-1, 0)], [20, 0, 1])
        self.assert_answer([binomial(5, 2), binomial(2, 3)], [10, 0])

    def test_lists_of_different_things(self):
        for size, chosen in itertools.product(range(6), range(8)):
            rows = list(itertools.permutations(range(size), chosen))
            self.assert_answer(falling(size, chosen), len(rows))
            self.assert_answer(binomial(size, chosen), len({frozenset(row) for row in rows}))

    def test_great_numbers(self):
        for size in [50, 199, 200]:
            for chosen in [0, 1, 2, 49, 50, 51, 198, 199, 200]:
                self.assert_answer(falling(size, chosen), math.perm(size, chosen))
                self.assert_answer(binomial(size, chosen), math.comb(size, chosen))

    def test_negative_choices(self):
        for size in [-MANY, -2, -1, 0, 1, 5, 200]:
            for chosen in [-1, -2, -5, -MANY]:
                self.assert_answer(falling(size, chosen), 0)
                self.assert_answer(binomial(size, chosen), 0)

    def test_nothing_chosen(self):
        for size in [-MANY, -2, -1, 0, 1, 5, 200]:
            self.assert_answer(falling(size, 0), 1)
            self.assert_answer(binomial(size, 0), 1)

    def test_more_than_there_are(self):
        for size in [-MANY, -3, -1, 0, 1, 5, 199]:
            for chosen in [max(0, size) + 1, 200]:
                self.assert_answer(falling(size, chosen), 0)
                self.assert_answer(binomial(size, chosen), 0)

    def test_keywords(self):
        for call in [falling, binomial]:
            for size, chosen in [(5, 2), (2, 5), (-1, 0), (3, -1)]:
                self.assert_keywords(call, size=size, chosen=chosen)


class CountTreesTest(ForestCase):
    def test_example(self):
        self.assert_answer([count_trees(0), count_trees(3)], [0, 9])

    def test_against_the_lists(self):
        for size in range(6):
            self.assert_answer(count_trees(size), len(small_trees(size)))
            self.assert_answer(count_trees(size), len(all_trees(size)))

    def test_great_sizes(self):
        for size in [6, 20, 40, 59, 60]:
            self.assert_answer(count_trees(size), size ** (size - 1))

    def test_bad_size(self):
        for size in [-1, -2, 61, 62, MANY, -MANY]:
            self.assert_error(BadSize, "size", size, count_trees, size)
            self.assert_keywords(count_trees, size=size)
        self.assert_keywords(count_trees, size=4)


class CountForestsTest(ForestCase):
    def test_example(self):
        answers = [count_forests(4, roots=2), count_forests(4), count_forests(0, roots=0)]
        self.assert_answer(answers, [8, 16, 1])

    def test_against_the_lists(self):
        for size in range(6):
            for roots in range(-2, 8):
                wanted = [forest for forest in small_forests(size)
                          if [node for node in range(size) if forest[node] == node] == list(range(roots))]
                # A negative number of roots is no number of roots at all.
                self.assert_answer(count_forests(size, roots=roots), len(wanted) if roots >= 0 else 0)

    def test_any_integer_as_roots(self):
        for size in [0, 1, 5, 60]:
            for roots in [-MANY, -1, size + 1, 61, MANY]:
                self.assert_answer(count_forests(size, roots=roots), 0)
            self.assert_answer(count_forests(size, roots=size), 1)
            self.assert_answer(count_forests(size, roots=0), 1 if size == 0 else 0)

    def test_great_sizes(self):
        for size in [20, 40, 60]:
            self.assert_answer(count_forests(size), size ** (size - 2))
            self.assert_answer(count_forests(size, roots=size - 1), size - 1)
            self.assert_answer(count_forests(size, roots=7), 7 * size ** (size - 8))

    def test_sum_over_all_sets_of_roots(self):
        for size in range(1, 21):
            total = sum(math.comb(size, roots) * count_forests(size, roots=roots) for roots in range(size + 1))
            self.assert_answer(total, (size + 1) ** (size - 1))

    def test_default(self):
        self.assert_answer([count_forests(size) for size in range(6)], [0, 1, 1, 3, 16, 125])

    def test_bad_size(self):
        for size in [-1, -2, 61, 62, MANY, -MANY]:
            self.assert_error(BadSize, "size", size, count_forests, size)
            for roots in [-1, 0, 1, size, MANY]:
                self.assert_error(BadSize, "size", size, count_forests, size, roots=roots)

    def test_roots_is_keyword_only(self):
        with self.assertRaises(TypeError):
            count_forests(4, 2)
        self.assert_answer(count_forests(roots=2, size=4), 8)


class ListsTest(ForestCase):
    def test_examples(self):
        self.assert_answer(all_forests(2), [(0, 0), (0, 1), (1, 1)])
        self.assert_answer(all_trees(2), [(0, 0), (1, 1)])

    def test_limits(self):
        self.assert_answer(counts.MAX_SIZE, 60)
        self.assert_answer(counts.MAX_LISTED, 5)

    def test_all_and_ascending(self):
        for size in range(6):
            self.assert_answer(all_forests(size), sorted(small_forests(size)))
            self.assert_answer(all_trees(size), sorted(small_trees(size)))

    def test_no_nodes(self):
        self.assert_answer(all_forests(0), [()])
        self.assert_answer(all_trees(0), [])

    def test_too_many_nodes(self):
        for call in [all_forests, all_trees]:
            for size in [6, 7, 40, 41, MANY]:
                self.assert_error(TooManyNodes, "limit", 5, call, size)

    def test_keywords_and_new_results(self):
        for call in [all_forests, all_trees]:
            for size in [0, 1, 2, 3]:
                self.assert_fresh(call, size)
            for size in [0, 3, 6]:
                self.assert_keywords(call, size=size)


if __name__ == "__main__":
    unittest.main()
