"""Promises 8 to 12 of stage 2: runs, their rows, counts, letters and fewest double swaps."""

import unittest

from paircounts.counts import Counts
from paircounts.errors import InvalidNumber, InvalidRow, InvalidRuns, TooLarge
from paircounts.runs import counts_of, fewest_far, is_runs, letter_at, row_of, runs_of
from paircounts.swaps import fewest_swaps
from tests.values import (
    MANY, NO_INTEGERS, NO_ROWS, AnyValueEqual, Raising, all_rows, exchanged, numbers_of, rows_by_counts, text_of,
)


class ListBelow(list):
    """A list of another kind."""


class TupleBelow(tuple):
    """A tuple of another kind."""


def alternating(many):
    """Return so many runs of one letter each."""
    return [("ab"[number % 2], 1) for number in range(many)]


NO_RUNS = [
    None, True, False, 0, 1, MANY, "", "ab", "ax2", b"", (), (("a", 1),), {}, {"a": 1}, {("a", 1)}, Counts(1, 1, 1),
    object(), ["a"], ["a1"], ["a", 1], [["a", 1]], [[]], [()], [("a",)], [(1,)], [("a", 1, 1)], [("a", 1), "b1"],
    [None],
    [("a", 0)], [("a", -1)], [("a", -MANY)], [("a", True)], [("a", False)], [("a", None)], [("a", "1")], [("a", (1,))],
    [("a", [1])], [("c", 1)], [("A", 1)], [("", 1)], [("ab", 1)], [("aa", 1)], [("?", 1)], [(None, 1)], [(1, 1)],
    [(1, "a")], [(["a"], 1)], [(("a",), 1)], [(b"a", 1)], [(True, 1)], [("a", 1), ("a", 2)], [("b", MANY), ("b", 1)],
    [("a", 1), ("b", 1), ("b", 1)], [("a", 1), ("b", 1), ("a", 0)], [("a", 1), ("b", 2), ("a", 3), ("a", 4)],
    [("b", 1), None], alternating(41), alternating(400), ListBelow(), ListBelow([("a", 1)]), [TupleBelow(("a", 1))],
    [("a", 1), TupleBelow(("b", 1))], [[("a", 1)]], [("a", Counts(1, 0, 0))], [(Counts(1, 0, 0), 1)],
    [(AnyValueEqual(), 1)], AnyValueEqual(), [AnyValueEqual()], [("a", AnyValueEqual())],
]


class IsRuns(unittest.TestCase):
    def test_example(self):
        self.assertIs(is_runs([("a", 1), ("a", 2)]), False)

    def test_runs(self):
        for value in [
            [], [("a", 1)], [("b", 1)], [("a", 2), ("b", 1)], [("b", MANY), ("a", MANY ** 3)], alternating(39),
            alternating(40), [(letter, MANY) for letter, _ in alternating(40)],
        ]:
            self.assertIs(is_runs(value), True)

    def test_other_values(self):
        for value in NO_RUNS:
            self.assertIs(is_runs(value), False, value)


class RunsAndRows(Raising, unittest.TestCase):
    def test_examples(self):
        self.assertEqual([runs_of("aab"), row_of([("b", 2)])], [[("a", 2), ("b", 1)], "bb"])

    def test_all_short_rows(self):
        seen = []
        for row in [row for length in range(9) for row in all_rows(length)]:
            runs = runs_of(row)
            self.assertIs(is_runs(runs), True)
            self.assertEqual(text_of(runs), row)
            self.assertEqual(row_of(runs), row)
            self.assertEqual(runs_of(row_of(runs)), runs)
            self.assertNotIn(runs, seen)
            seen.append(runs)

    def test_no_runs(self):
        self.assertEqual([runs_of(""), row_of([])], [[], ""])

    def test_forty_runs_and_more(self):
        self.assertEqual(runs_of("ab" * 20), alternating(40))
        self.assertEqual(row_of(alternating(40)), "ab" * 20)
        self.assertEqual(runs_of("abb" * 20), [("a", 1), ("b", 2)] * 20)
        self.assertEqual(row_of([("b", 3), ("a", 2)] * 20), "bbbaa" * 20)
        for row in ["ab" * 20 + "a", "b" + "ab" * 20, "ab" * 100, "aabb" * 20 + "a"]:
            self.assertEqual(self.check_raises(TooLarge, runs_of, row).limit, 40)
        self.assertEqual(runs_of("ab" * 20 + "b" * 160), [*alternating(39), ("b", 161)])

    def test_two_hundred_letters_and_more(self):
        for runs in [[("a", 200)], [("b", 200)], [("a", 100), ("b", 100)], [*alternating(39), ("b", 161)]]:
            self.assertEqual(row_of(runs), text_of(runs))
            self.assertEqual(runs_of(row_of(runs)), runs)
        for runs in [
            [("a", 201)], [("b", 201)], [("a", 100), ("b", 101)], [*alternating(39), ("b", 162)], [("a", MANY)],
            [("a", MANY), ("b", MANY)], [("a", 1), ("b", 200)],
        ]:
            self.assertEqual(self.check_raises(TooLarge, row_of, runs).limit, 200)

    def test_returned_lists_are_new(self):
        runs_of("aab").append(("a", 1))
        self.assertEqual(runs_of("aab"), [("a", 2), ("b", 1)])

    def test_arguments_stay(self):
        runs, other = [("a", 2), ("b", 1), ("a", 1)], [("b", 1), ("a", 3)]
        for call in [is_runs, row_of, counts_of, lambda value: letter_at(value, 3), lambda value: letter_at(value, 0)]:
            call(runs)
            self.assertEqual(runs, [("a", 2), ("b", 1), ("a", 1)])
        fewest_far(runs, other)
        fewest_far(runs, [("a", 1), ("b", 1), ("a", 2)])
        fewest_far(runs, runs)
        self.assertEqual([runs, other], [[("a", 2), ("b", 1), ("a", 1)], [("b", 1), ("a", 3)]])


class CountsOfRuns(unittest.TestCase):
    def test_example(self):
        one, other = [("a", MANY), ("b", 2 * MANY), ("a", MANY)], [("b", MANY), ("a", 2 * MANY), ("b", MANY)]
        self.assertIs(counts_of(one) == counts_of(other), True)
        self.assertEqual(numbers_of(counts_of(one)), (2 * MANY, 2 * MANY, 2 * MANY * MANY))

    def test_all_short_rows(self):
        for row in [row for length in range(9) for row in all_rows(length)]:
            self.assertEqual(counts_of(runs_of(row)), Counts.of(row))

    def test_edges(self):
        self.assertEqual(numbers_of(counts_of([])), (0, 0, 0))
        self.assertEqual(numbers_of(counts_of([("a", MANY)])), (MANY, 0, 0))
        self.assertEqual(numbers_of(counts_of([("b", MANY)])), (0, MANY, 0))
        self.assertEqual(numbers_of(counts_of([("a", MANY), ("b", MANY)])), (MANY, MANY, MANY * MANY))
        self.assertIs(type(counts_of([])), Counts)

    def test_numbers_of_sixty_digits_and_more(self):
        most, less = 10 ** 62 - 1, 10 ** 60 + 7
        found = counts_of([("b", less), ("a", most), ("b", 5), ("a", less), ("b", most)])
        pairs = most * 5 + (most + less) * most
        self.assertEqual(numbers_of(found), (most + less, less + 5 + most, pairs))
        runs = [(letter, MANY) for letter, _ in alternating(40)]
        self.assertEqual(numbers_of(counts_of(runs)), (20 * MANY, 20 * MANY, 210 * MANY * MANY))

    def test_least_and_greatest_runs_lead_back(self):
        for numbers in [(0, 0, 0), (2, 3, 4), (MANY, MANY, 7), (MANY, 2, MANY + 5), (10 ** 61, 3 * MANY, 10 ** 62 - 1)]:
            counts = Counts(*numbers)
            self.assertEqual(counts_of(counts.least_runs()), counts)
            self.assertEqual(counts_of(counts.greatest_runs()), counts)


class LetterAt(unittest.TestCase):
    def test_example(self):
        one = [("a", MANY), ("b", 2 * MANY), ("a", MANY)]
        self.assertEqual(letter_at(one, MANY), "b")

    def test_all_short_rows(self):
        for row in [row for length in range(9) for row in all_rows(length)]:
            self.assertEqual([letter_at(runs_of(row), place) for place in range(len(row))], list(row))

    def test_first_and_last_place_of_long_runs(self):
        runs = [("a", MANY), ("b", 1), ("a", 2), ("b", 2 * MANY), ("a", 10 ** 61)]
        start = 0
        for letter, number in runs:
            for place in [start, start + number // 2, start + number - 1]:
                self.assertEqual(letter_at(runs, place), letter)
            start += number

    def test_forty_runs(self):
        runs = [(letter, MANY) for letter, _ in alternating(40)]
        for number in range(40):
            found = [letter_at(runs, place) for place in [number * MANY, (number + 1) * MANY - 1]]
            self.assertEqual(found, ["ab"[number % 2]] * 2)


class FewestFar(unittest.TestCase):
    def test_example(self):
        one, other = [("a", MANY), ("b", 2 * MANY), ("a", MANY)], [("b", MANY), ("a", 2 * MANY), ("b", MANY)]
        self.assertEqual(fewest_far(one, other), MANY * MANY)
        self.assertEqual(fewest_far(other, one), MANY * MANY)

    def test_all_short_rows(self):
        for length in range(8):
            rows = all_rows(length)
            for one in rows:
                for other in rows:
                    found = fewest_far(runs_of(one), runs_of(other))
                    self.assertEqual(found, fewest_swaps(one, other), (one, other))

    def test_rows_of_nine_letters_with_the_same_counts(self):
        for rows in rows_by_counts(9).values():
            for one in rows:
                for other in rows:
                    self.assertEqual(fewest_far(runs_of(one), runs_of(other)), fewest_swaps(one, other))

    def test_rows_of_two_hundred_letters(self):
        for many_a, pairs in [(100, 4321), (50, 3000), (7, 1000), (193, 600), (100, 9999), (100, 10)]:
            counts = Counts(many_a, 200 - many_a, pairs)
            rows = [text_of(counts.least_runs()), text_of(counts.greatest_runs())]
            self.assertEqual(fewest_far(*map(runs_of, rows)), fewest_swaps(*rows))

    def test_the_same_runs(self):
        for runs in [[], [("a", MANY)], [("a", 3), ("b", MANY)], alternating(40)]:
            self.assertEqual(fewest_far(runs, list(runs)), 0)

    def test_different_counts(self):
        for one, other in [
            ([("a", 1)], [("b", 1)]), ([], [("a", 1)]), ([("a", MANY)], [("a", MANY + 1)]),
            ([("a", 1), ("b", 1)], [("b", 1), ("a", 1)]), ([("a", MANY), ("b", 2)], [("a", MANY), ("b", 3)]),
            ([("a", MANY), ("b", MANY)], [("b", 1), ("a", MANY), ("b", MANY - 1)]),
        ]:
            self.assertIsNone(fewest_far(one, other))
            self.assertIsNone(fewest_far(other, one))

    def test_rows_that_grow(self):
        for rows in rows_by_counts(8).values():
            for one in rows:
                for other in rows:
                    found = [fewest_far(grown(one, times), grown(other, times)) for times in [1, 5, MANY]]
                    self.assertEqual(found, [fewest_of_grown(one, other, times) for times in [1, 5, MANY]])
        one, other = grown("abbaab", 20), grown("baabba", 20)
        self.assertIsNone(fewest_far(one, other))
        one, other = grown("aabbba", 30), grown("baaabb", 30)
        self.assertEqual(fewest_far(one, other), fewest_swaps(row_of(one), row_of(other)))

    def test_one_step_in_a_long_row(self):
        # The first b goes to the right, past some of the a, and the other one to the left.
        one = [("a", MANY), ("b", 1), ("a", MANY), ("b", 1), ("a", 1)]
        other = [("a", MANY + 1), ("b", 1), ("a", MANY - 1), ("b", 1), ("a", 1)]
        self.assertIsNone(fewest_far(one, other))
        other = [("a", MANY + 1), ("b", 1), ("a", MANY - 2), ("b", 1), ("a", 2)]
        self.assertEqual(fewest_far(one, other), 1)
        other = [("a", MANY + 5), ("b", 1), ("a", MANY - 10), ("b", 1), ("a", 6)]
        self.assertEqual(fewest_far(one, other), 5)

    def test_reversed_and_exchanged_rows(self):
        one, other = [("a", MANY), ("b", 2 * MANY), ("a", MANY)], [("b", MANY), ("a", 2 * MANY), ("b", MANY)]
        turned = [list(reversed(runs)) for runs in [one, other]]
        changed = [[(exchanged(letter), number) for letter, number in runs] for runs in [one, other]]
        self.assertEqual([fewest_far(*turned), fewest_far(*changed)], [MANY * MANY, MANY * MANY])


def grown(row, times):
    """Return the runs of a row with each letter so many times."""
    return [(letter, number * times) for letter, number in runs_of(row)]


def fewest_of_grown(one, other, times):
    """Return the fewest double swaps between two rows with each letter so many times, letter by letter."""
    total, difference = 0, 0
    for letter, other_letter in zip(one, other):
        after = difference + (letter == "a") - (other_letter == "a")
        # From times * difference to times * after in so many steps, on one side of 0: twice the sum of what they reach.
        total += abs(difference + after) * times * times + (abs(after) - abs(difference)) * times
        difference = after
    return total // 4


class ErrorsOfRuns(Raising, unittest.TestCase):
    def test_no_runs(self):
        for value in NO_RUNS:
            self.check_raises(InvalidRuns, row_of, value)
            self.check_raises(InvalidRuns, counts_of, value)
            self.check_raises(InvalidRuns, letter_at, value, 0)
            self.check_raises(InvalidRuns, fewest_far, value, [("a", 1)])
            self.check_raises(InvalidRuns, fewest_far, [("a", 1)], value)
            self.check_raises(InvalidRuns, fewest_far, value, value)

    def test_no_row(self):
        for value in NO_ROWS:
            self.check_raises(InvalidRow, runs_of, value)

    def test_no_place(self):
        for runs in [[], [("a", 1)], [("a", 2), ("b", 3)], [("b", MANY)], alternating(40)]:
            letters = sum([number for _, number in runs])
            for value in [*NO_INTEGERS, -1, -letters - 1, letters, letters + 1, letters + MANY, -MANY]:
                self.check_raises(InvalidNumber, letter_at, runs, value)

    def test_several_wrong_values(self):
        for place in [None, True, -1, "0"]:
            self.check_raises(InvalidRuns, letter_at, [("a", 0)], place)
            self.check_raises(InvalidRuns, letter_at, [("a", 1), ("a", 1)], place)
        self.check_raises(InvalidRuns, row_of, [("a", MANY), ("a", MANY)])
        self.check_raises(InvalidRow, runs_of, "ab" * 101)
        self.check_raises(InvalidRow, runs_of, "ab" * 30 + "c")
