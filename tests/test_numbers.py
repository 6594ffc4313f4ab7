"""Promises 1 to 3 of stage 2: the number of rows with given counts, these rows, and their numbers."""

import inspect
import unittest
from itertools import islice
from math import comb

from paircounts.counts import Counts
from paircounts.errors import InvalidCounts, InvalidNumber, InvalidRow, TooLarge
from paircounts.numbers import count_rows, nth_row, row_number, rows_of
from tests.values import (
    MANY, NO_COUNTS, NO_INTEGERS, NO_ROWS, Raising, gaussian, rows_by_counts, text_of,
)

TOO_LONG = [
    Counts(41, 0, 0), Counts(0, 41, 0), Counts(20, 21, 210), Counts(21, 20, 0), Counts(40, 1, 40), Counts(200, 200, 7),
    Counts(5 * MANY, 5 * MANY, MANY), Counts(10 * MANY, 0, 0), Counts(MANY, 0, 0) * MANY,
]


class NumberOfRows(unittest.TestCase):
    def test_examples(self):
        two = Counts(2, 3, 3)
        self.assertEqual(list(rows_of(two)), ["abbba", "babab"])
        self.assertEqual([nth_row(two, 1), row_number("baabb"), count_rows(Counts(4, 4, 8))], ["babab", 1, 8])

    def test_all_short_rows(self):
        for length in range(11):
            for numbers, rows in rows_by_counts(length).items():
                counts = Counts(*numbers)
                self.assertEqual(count_rows(counts), len(rows))
                self.assertEqual(list(rows_of(counts)), rows)
                self.assertEqual([nth_row(counts, number) for number in range(len(rows))], rows)
                self.assertEqual([row_number(row) for row in rows], list(range(len(rows))))

    def test_no_letters(self):
        nothing = Counts(0, 0, 0)
        self.assertEqual([count_rows(nothing), list(rows_of(nothing)), nth_row(nothing, 0)], [1, [""], ""])
        self.assertEqual(row_number(""), 0)

    def test_numbers_of_forty_letters(self):
        for many_a in [0, 1, 2, 7, 19, 20, 21, 38, 39, 40]:
            many_b = 40 - many_a
            found = [count_rows(Counts(many_a, many_b, pairs)) for pairs in range(many_a * many_b + 1)]
            self.assertEqual(found, gaussian(many_a, many_b))
            self.assertEqual(sum(found), comb(40, many_a))

    def test_numbers_add_up_to_a_binomial_number(self):
        for many_a, many_b in [(0, 0), (0, 5), (5, 0), (1, 9), (6, 6), (3, 20), (12, 11), (15, 14)]:
            found = [count_rows(Counts(many_a, many_b, pairs)) for pairs in range(many_a * many_b + 1)]
            self.assertEqual(sum(found), comb(many_a + many_b, many_a))
            self.assertEqual(found, found[::-1])

    def test_kinds_of_values(self):
        self.assertIs(type(count_rows(Counts(2, 3, 3))), int)
        self.assertIs(type(row_number("baabb")), int)
        self.assertIs(type(nth_row(Counts(2, 3, 3), 1)), str)


class NumbersOfRows(unittest.TestCase):
    def test_one_row_only(self):
        for many_a, many_b in [(20, 20), (2, 38), (38, 2), (10, 5)]:
            most = many_a * many_b
            rows = [
                "b" * many_b + "a" * many_a, "b" * (many_b - 1) + "ab" + "a" * (many_a - 1),
                "a" * (many_a - 1) + "ba" + "b" * (many_b - 1), "a" * many_a + "b" * many_b,
            ]
            for pairs, row in zip([0, 1, most - 1, most], rows):
                counts = Counts(many_a, many_b, pairs)
                self.assertEqual([count_rows(counts), nth_row(counts, 0), row_number(row)], [1, row, 0])

    def test_one_a_or_one_b_only(self):
        for pairs in range(40):
            row = "b" * (39 - pairs) + "a" + "b" * pairs
            self.assertEqual([count_rows(Counts(1, 39, pairs)), nth_row(Counts(1, 39, pairs), 0)], [1, row])
            row = "a" * pairs + "b" + "a" * (39 - pairs)
            self.assertEqual([count_rows(Counts(39, 1, pairs)), nth_row(Counts(39, 1, pairs), 0)], [1, row])

    def test_rows_and_numbers_of_forty_letters_lead_back(self):
        for numbers in [(20, 20, 200), (20, 20, 2), (20, 20, 398), (7, 33, 100), (33, 7, 115), (40, 0, 0), (0, 40, 0)]:
            counts = Counts(*numbers)
            many = count_rows(counts)
            chosen = sorted({0, many // 7, many // 3, many // 2, many - 2, many - 1} - {-1})
            rows = [nth_row(counts, number) for number in chosen]
            self.assertEqual([row in counts for row in rows], [True] * len(rows))
            self.assertEqual(rows, sorted(rows))
            self.assertEqual([row_number(row) for row in rows], chosen)

    def test_neighbouring_numbers(self):
        counts = Counts(20, 20, 177)
        rows = [nth_row(counts, number) for number in range(5000, 5100)]
        self.assertTrue(all(one < other for one, other in zip(rows, rows[1:])))
        self.assertEqual([row_number(row) for row in rows], list(range(5000, 5100)))

    def test_first_and_last_row(self):
        for numbers in [(20, 20, 200), (20, 20, 123), (13, 27, 300), (2, 30, 31)]:
            counts = Counts(*numbers)
            self.assertEqual(nth_row(counts, 0), text_of(counts.least_runs()))
            self.assertEqual(nth_row(counts, count_rows(counts) - 1), text_of(counts.greatest_runs()))


class WalkingRows(unittest.TestCase):
    def test_a_generator(self):
        self.assertTrue(inspect.isgenerator(rows_of(Counts(2, 3, 3))))

    def test_first_rows_of_very_many(self):
        counts = Counts(20, 20, 200)
        self.assertGreater(count_rows(counts), 10 ** 9)
        first = list(islice(rows_of(counts), 300))
        self.assertEqual(first, [nth_row(counts, number) for number in range(300)])
        self.assertEqual(first[:2], ["a" * 10 + "b" * 20 + "a" * 10, "a" * 9 + "b" + "a" + "b" * 18 + "ab" + "a" * 9])

    def test_left_early(self):
        counts = Counts(4, 4, 8)
        rows = list(rows_of(counts))
        for row in rows_of(counts):
            if row == rows[2]:
                break
        walk = rows_of(counts)
        self.assertEqual(next(walk), rows[0])
        walk.close()
        self.assertEqual(list(rows_of(counts)), rows)

    def test_one_within_another_one(self):
        counts, other = Counts(4, 4, 8), Counts(3, 3, 4)
        found = [(one, two) for one in rows_of(counts) for two in rows_of(counts)]
        rows = list(rows_of(counts))
        self.assertEqual(found, [(one, two) for one in rows for two in rows])
        found = [(one, two) for one in rows_of(counts) for two in rows_of(other)]
        self.assertEqual(found, [(one, two) for one in rows for two in list(rows_of(other))])

    def test_by_turns_with_other_calls(self):
        counts, other = Counts(4, 4, 8), Counts(4, 4, 7)
        rows, other_rows = list(rows_of(counts)), list(rows_of(other))
        one, two, three = rows_of(counts), rows_of(other), rows_of(counts)
        self.assertEqual(next(three), rows[0])
        for number, row in enumerate(rows[:7]):
            self.assertEqual(next(one), row)
            self.assertEqual([row_number(row), nth_row(counts, 7), count_rows(other)], [number, rows[7], 7])
            self.assertEqual(next(two), other_rows[number])
        self.assertEqual([list(one), list(two), list(three)], [rows[7:], [], rows[1:]])
        self.assertIsNone(next(one, None))


class ErrorsOfNumbers(Raising, unittest.TestCase):
    def test_no_counts(self):
        for value in NO_COUNTS:
            self.check_raises(InvalidCounts, count_rows, value)
            self.check_raises(InvalidCounts, lambda: list(rows_of(value)))
            self.check_raises(InvalidCounts, nth_row, value, 0)

    def test_no_row(self):
        for value in NO_ROWS:
            self.check_raises(InvalidRow, row_number, value)

    def test_forty_letters_are_allowed(self):
        for row in ["a" * 40, "b" * 40, "ab" * 20, "ba" * 20, "a" * 39 + "b"]:
            counts = Counts.of(row)
            self.assertEqual(nth_row(counts, row_number(row)), row)
            self.assertEqual(next(rows_of(counts)), nth_row(counts, 0))

    def test_more_letters(self):
        for counts in TOO_LONG:
            for call in [count_rows, lambda value: list(rows_of(value)), lambda value: nth_row(value, 0)]:
                self.assertEqual(self.check_raises(TooLarge, call, counts).limit, 40)
        for row in ["a" * 41, "b" * 41, "ab" * 20 + "a", "ab" * 100]:
            self.assertEqual(self.check_raises(TooLarge, row_number, row).limit, 40)

    def test_no_number_of_a_row(self):
        for value in [*NO_INTEGERS, -1, 2, 3, MANY, -MANY]:
            self.check_raises(InvalidNumber, nth_row, Counts(2, 3, 3), value)
        for counts in [Counts(0, 0, 0), Counts(4, 4, 8), Counts(20, 20, 200)]:
            for value in [-1, count_rows(counts), count_rows(counts) + 1, None, False]:
                self.check_raises(InvalidNumber, nth_row, counts, value)

    def test_several_wrong_values(self):
        self.check_raises(InvalidCounts, nth_row, "abba", None)
        self.check_raises(InvalidCounts, nth_row, (41, 0, 0), -1)
        for value in [None, True, -1, MANY, 0]:
            self.assertEqual(self.check_raises(TooLarge, nth_row, Counts(41, 0, 0), value).limit, 40)
