"""Promise 17 of stage 2: what the functions of several files say of the same rows agrees."""

import copy
import unittest
from math import comb

from paircounts.counts import Counts
from paircounts.numbers import count_rows, nth_row, row_number, rows_of
from paircounts.patterns import count_fillings, fits, nth_filling, pair_range
from paircounts.places import certain_row, is_told, letters_at, prefix_range
from paircounts.rows import pairs_in, prefix_counts
from paircounts.runs import counts_of, fewest_far, letter_at, row_of, runs_of
from paircounts.swaps import count_between, fewest_swaps, swapped, swaps_of
from tests.values import MANY, all_rows, exchanged, numbers_of, rows_by_counts

LONG_ROWS = [
    "aabbab" * 6, "ab" * 20, "ba" * 20, "a" * 17 + "ba" + "b" * 20, "b" * 30 + "a" * 10, "abbabaabbaababba" * 2,
    "aaaaabbbbbbbaabababbbbaaaaaaabbabababbb", "babbbbbaabbaaabbabbbbbbbbabaaaaaaaabbbba", "b" * 38 + "ab", "a" * 40,
    "",
]
SHORT_ROWS = [row for length in range(10) for row in all_rows(length)]


def all_counts(most):
    """Return all counts of up to so many letters."""
    return [Counts(*numbers) for length in range(most + 1) for numbers in rows_by_counts(length)]


class SwapsAndNumbers(unittest.TestCase):
    def test_a_row_after_double_swaps(self):
        for row in SHORT_ROWS + LONG_ROWS:
            counts, number = Counts.of(row), row_number(row)
            self.assertEqual(nth_row(counts, number), row)
            for swap in swaps_of(row):
                found = swapped(row, swap)
                self.assertEqual(Counts.of(found), counts)
                self.assertEqual(row_number(found) < number, found < row)
                self.assertNotEqual(row_number(found), number)
                self.assertEqual([fewest_swaps(row, found), fewest_far(runs_of(row), runs_of(found))], [1, 1])

    def test_a_row_told_by_its_counts_has_no_double_swaps(self):
        for row in SHORT_ROWS + LONG_ROWS:
            self.assertEqual(is_told(Counts.of(row)), swaps_of(row) == [], row)

    def test_rows_between_the_least_and_the_greatest(self):
        for counts in all_counts(9):
            rows = list(rows_of(counts))
            self.assertLessEqual(count_between(rows[0], rows[-1]), count_rows(counts))


class CountsAndNumbers(unittest.TestCase):
    def test_first_and_last_row(self):
        for counts in all_counts(9):
            rows = list(rows_of(counts))
            self.assertEqual([runs_of(rows[0]), runs_of(rows[-1])], [counts.least_runs(), counts.greatest_runs()])
            self.assertTrue(all([row in counts for row in rows]))
        for row in LONG_ROWS:
            counts = Counts.of(row)
            self.assertEqual(row_number(row_of(counts.least_runs())), 0)
            self.assertEqual(row_number(row_of(counts.greatest_runs())), count_rows(counts) - 1)

    def test_reversed_and_exchanged_rows(self):
        for counts in all_counts(9):
            found = [count_rows(some) for some in [counts, ~counts, -counts, ~-counts]]
            self.assertEqual(len(set(found)), 1)
            rows = list(rows_of(counts))
            self.assertEqual(list(rows_of(~counts)), sorted([row[::-1] for row in rows]))
            self.assertEqual(list(rows_of(-counts)), [exchanged(row) for row in reversed(rows)])
        for row in LONG_ROWS:
            counts = Counts.of(row)
            self.assertEqual(count_rows(counts), count_rows(~counts))
            self.assertEqual(count_rows(counts), count_rows(-counts))
            self.assertEqual(row_number(exchanged(row)), count_rows(counts) - 1 - row_number(row))

    def test_told_if_there_is_one_row(self):
        for counts in all_counts(11):
            self.assertIs(is_told(counts), count_rows(counts) == 1)
        for many_a in range(41):
            for pairs in range(many_a * (40 - many_a) + 1)[::7]:
                counts = Counts(many_a, 40 - many_a, pairs)
                self.assertIs(is_told(counts), count_rows(counts) == 1)
                self.assertIs(is_told(counts), counts.least_runs() == counts.greatest_runs())


class Patterns(unittest.TestCase):
    def test_patterns_of_open_signs_alone(self):
        for counts in all_counts(9):
            letters = counts.many_a + counts.many_b
            pattern = "?" * letters
            self.assertEqual(count_fillings(pattern, counts), count_rows(counts))
            found = [nth_filling(pattern, counts, number) for number in range(count_rows(counts))]
            self.assertEqual(found, list(rows_of(counts)))
            self.assertEqual(pair_range(pattern, counts.many_a), (0, counts.many_a * counts.many_b))
        for pairs in range(226):
            counts = Counts(15, 15, pairs)
            many = count_rows(counts)
            self.assertEqual(count_fillings("?" * 30, counts), many)
            self.assertEqual(nth_filling("?" * 30, counts, many // 2), nth_row(counts, many // 2))

    def test_certain_rows_as_patterns(self):
        for counts in all_counts(9):
            pattern = certain_row(counts)
            self.assertTrue(all([fits(pattern, row) for row in rows_of(counts)]))
            self.assertEqual(count_fillings(pattern, counts), count_rows(counts))

    def test_fillings_with_all_pairs(self):
        pattern = "a??b???a????b?a?????bb?a?"
        for many in range(len(pattern) + 1):
            found, many_b = pair_range(pattern, many), len(pattern) - many
            numbers = [count_fillings(pattern, Counts(many, many_b, pairs)) for pairs in range(many * many_b + 1)]
            if found is None:
                self.assertEqual(sum(numbers), 0)
            else:
                least, greatest = found
                self.assertEqual(sum(numbers[least:greatest + 1]), sum(numbers))
                self.assertEqual(sum(numbers), comb(pattern.count("?"), many - pattern.count("a")))
                self.assertTrue(numbers[least] == numbers[greatest] == 1)


class Places(unittest.TestCase):
    def test_letters_and_prefix_counts_of_rows(self):
        for row in SHORT_ROWS + LONG_ROWS:
            counts = Counts.of(row)
            for place, letter in enumerate(row):
                self.assertIn(letter, letters_at(counts, place))
            for length, many_a in enumerate(prefix_counts(row)):
                least, greatest = prefix_range(counts, length)
                self.assertTrue(least <= many_a <= greatest)

    def test_letters_and_certain_rows(self):
        for row in LONG_ROWS:
            counts = Counts.of(row)
            found = [letters_at(counts, place) for place in range(len(row))]
            self.assertEqual(certain_row(counts), "".join(["?" if len(some) == 2 else some for some in found]))
            self.assertEqual("?" in certain_row(counts), not is_told(counts))

    def test_least_and_greatest_rows_of_large_counts(self):
        for numbers in [(MANY, MANY, 7), (MANY, 2, MANY + 5), (7, MANY, 3 * MANY), (MANY, 3 * MANY, MANY * MANY + 7)]:
            counts = Counts(*numbers)
            for runs in [counts.least_runs(), counts.greatest_runs()]:
                self.assertEqual(counts_of(runs), counts)
                end, many_a = 0, 0
                for letter, number in runs:
                    self.assertIn(letter, letters_at(counts, end))
                    self.assertEqual(letter, letter_at(runs, end))
                    end, many_a = end + number, many_a + (number if letter == "a" else 0)
                    self.assertIn(letter, letters_at(counts, end - 1))
                    least, greatest = prefix_range(counts, end)
                    self.assertTrue(least <= many_a <= greatest)


class RunsAndRows(unittest.TestCase):
    def test_the_same_counts_and_letters(self):
        for row in SHORT_ROWS + LONG_ROWS:
            runs = runs_of(row)
            self.assertEqual(counts_of(runs), Counts.of(row))
            self.assertEqual(counts_of(runs).pairs, pairs_in(row))
            self.assertEqual([letter_at(runs, place) for place in range(len(row))], list(row))
            self.assertEqual(row_of(runs), row)

    def test_the_same_fewest_double_swaps(self):
        for row in LONG_ROWS:
            counts = Counts.of(row)
            for number in [0, count_rows(counts) // 3, count_rows(counts) // 2, count_rows(counts) - 1]:
                other = nth_row(counts, number)
                self.assertEqual(fewest_far(runs_of(row), runs_of(other)), fewest_swaps(row, other))
            for other in LONG_ROWS:
                self.assertEqual(fewest_far(runs_of(row), runs_of(other)), fewest_swaps(row, other))


class SameAgain(unittest.TestCase):
    def test_equal_arguments_give_equal_results(self):
        one, other = [("a", 2), ("b", 3), ("a", 1)], [("b", 1), ("a", 3), ("b", 2)]
        calls = [
            (count_rows, Counts(4, 4, 8)), (nth_row, Counts(4, 4, 8), 3), (row_number, "abba"),
            (prefix_range, Counts(2, 3, 3), 2), (letters_at, Counts(2, 3, 3), 2), (certain_row, Counts(3, 3, 8)),
            (is_told, Counts(2, 2, 2)), (runs_of, "aab"), (row_of, one), (counts_of, one), (letter_at, one, 3),
            (fewest_far, one, other), (fits, "a?b", "abb"), (pair_range, "?bb?", 1),
            (count_fillings, "????", Counts(2, 2, 2)), (nth_filling, "a???", Counts(2, 2, 2), 0),
        ]
        for call, *arguments in calls:
            kept = copy.deepcopy(arguments)
            found = call(*arguments)
            self.assertEqual(call(*arguments), found)
            self.assertEqual(call(*kept), found)
            self.assertEqual(arguments, kept)

    def test_counts_stay(self):
        counts = Counts(4, 4, 8)
        for call in [count_rows, certain_row, is_told, lambda value: list(rows_of(value))]:
            call(counts)
            self.assertEqual(numbers_of(counts), (4, 4, 8))
