"""Promises 5 to 11 of stage 1: counts, computing with them, and their least and greatest rows."""

import unittest

from paircounts.counts import Counts
from paircounts.errors import InvalidCounts, InvalidNumber, InvalidRow
from tests.values import (
    MANY, NO_COUNTS, NO_INTEGERS, NO_ROWS, AnyValueEqual, Raising, all_rows, count_pairs, exchanged, numbers_of,
    rows_by_counts, text_of,
)


class CountsObjects(unittest.TestCase):
    def test_numbers(self):
        for numbers in [(0, 0, 0), (2, 3, 4), (2, 3, 0), (2, 3, 6), (5, 0, 0), (0, 5, 0), (1, 1, 0), (1, 1, 1)]:
            self.assertEqual(numbers_of(Counts(*numbers)), numbers)

    def test_numbers_of_any_size(self):
        most = 10 ** 62 - 1
        for numbers in [(MANY, MANY, MANY * MANY), (most, most, most), (most, 1, most), (most, 0, 0), (1, most, 0)]:
            self.assertEqual(numbers_of(Counts(*numbers)), numbers)

    def test_counts_of_a_row(self):
        self.assertEqual(numbers_of(Counts.of("abba")), (2, 2, 2))
        self.assertEqual(numbers_of(Counts.of("")), (0, 0, 0))
        self.assertEqual(numbers_of(Counts.of("a" * 100 + "b" * 100)), (100, 100, 10000))
        self.assertEqual(numbers_of(Counts.of("b" * 200)), (0, 200, 0))
        for row in [row for length in range(8) for row in all_rows(length)]:
            self.assertEqual(numbers_of(Counts.of(row)), (row.count("a"), row.count("b"), count_pairs(row)))
        self.assertIs(type(Counts.of("ab")), Counts)
        self.assertEqual(numbers_of(Counts(0, 0, 0).of("aab")), (2, 1, 2))

    def test_properties_cannot_be_assigned(self):
        counts = Counts(2, 3, 4)
        for name in ["many_a", "many_b", "pairs"]:
            with self.assertRaises(AttributeError):
                setattr(counts, name, 1)
        self.assertEqual(numbers_of(counts), (2, 3, 4))


class ErrorsOfCounts(Raising, unittest.TestCase):
    def test_values_that_are_no_integers(self):
        for value in NO_INTEGERS:
            self.check_raises(InvalidCounts, Counts, value, 1, 0)
            self.check_raises(InvalidCounts, Counts, 1, value, 0)
            self.check_raises(InvalidCounts, Counts, 1, 1, value)
            self.check_raises(InvalidCounts, Counts, value, value, value)

    def test_numbers_below_0(self):
        for numbers in [(-1, 1, 0), (1, -1, 0), (1, 1, -1), (-1, -1, 0), (-1, -1, 1), (-2, -2, 4), (-MANY, 0, 0)]:
            self.check_raises(InvalidCounts, Counts, *numbers)

    def test_too_many_pairs(self):
        for numbers in [(2, 3, 7), (0, 0, 1), (5, 0, 1), (0, 5, 1), (MANY, MANY, MANY * MANY + 1)]:
            self.check_raises(InvalidCounts, Counts, *numbers)

    def test_several_wrong_values(self):
        self.check_raises(InvalidCounts, Counts, "a", -1, None)
        self.check_raises(InvalidCounts, Counts, True, False, 5)

    def test_of_no_row(self):
        for value in NO_ROWS:
            self.check_raises(InvalidRow, Counts.of, value)


class Sums(Raising, unittest.TestCase):
    def test_example(self):
        one, two = Counts.of("abba"), Counts(2, 3, 4)
        self.assertEqual(numbers_of(one + two), (4, 5, 12))
        self.assertEqual(numbers_of(two + one), (4, 5, 10))

    def test_rows_behind_rows(self):
        rows = [row for length in range(5) for row in all_rows(length)]
        for one in rows:
            for other in rows:
                self.assertEqual(numbers_of(Counts.of(one) + Counts.of(other)), numbers_of(Counts.of(one + other)))

    def test_large_numbers(self):
        found = Counts(MANY, 2 * MANY, 5) + Counts(3, 7 * MANY, 11)
        self.assertEqual(numbers_of(found), (MANY + 3, 9 * MANY, 16 + 7 * MANY * MANY))
        self.assertEqual(numbers_of(Counts(MANY, 0, 0) + Counts(0, MANY, 0)), (MANY, MANY, MANY * MANY))

    def test_no_counts(self):
        for value in NO_COUNTS:
            self.check_raises(InvalidCounts, lambda: Counts(1, 1, 1) + value)

    def test_both_objects_stay(self):
        one, other = Counts(2, 2, 2), Counts(2, 3, 4)
        found = one + other
        self.assertEqual([numbers_of(one), numbers_of(other)], [(2, 2, 2), (2, 3, 4)])
        self.assertIsNot(found, one)
        self.check_raises(InvalidCounts, lambda: one + [1])
        self.assertEqual(numbers_of(one), (2, 2, 2))
        kept = one
        one += other
        self.assertEqual([numbers_of(kept), numbers_of(one)], [(2, 2, 2), (4, 5, 12)])
        self.assertEqual(numbers_of(kept + kept), numbers_of(kept * 2))


class Products(Raising, unittest.TestCase):
    def test_copies_of_rows(self):
        for row in [row for length in range(6) for row in all_rows(length)]:
            for number in range(5):
                self.assertEqual(numbers_of(Counts.of(row) * number), numbers_of(Counts.of(row * number)))

    def test_edges(self):
        two = Counts(2, 3, 4)
        self.assertEqual(numbers_of(two * 0), (0, 0, 0))
        self.assertEqual(numbers_of(two * 1), (2, 3, 4))
        pairs = 4 * MANY + 6 * (MANY * (MANY - 1) // 2)
        self.assertEqual(numbers_of(two * 10 ** 30), (2 * MANY, 3 * MANY, pairs))
        self.assertEqual(numbers_of(Counts(MANY, MANY, 1) * MANY)[2], MANY + MANY ** 3 * (MANY - 1) // 2)
        self.assertEqual(numbers_of(two), (2, 3, 4))

    def test_other_values(self):
        for value in [*NO_INTEGERS, -1, MANY + 1, -MANY, 10 ** 61]:
            self.check_raises(InvalidNumber, lambda: Counts(2, 3, 4) * value)
            self.check_raises(InvalidNumber, lambda: Counts(0, 0, 0) * value)


class ReversedAndExchanged(unittest.TestCase):
    def test_examples(self):
        two = Counts(2, 3, 4)
        self.assertEqual([numbers_of(~two), numbers_of(-two)], [(2, 3, 2), (3, 2, 2)])

    def test_rows(self):
        for row in [row for length in range(8) for row in all_rows(length)]:
            counts = Counts.of(row)
            self.assertEqual(numbers_of(~counts), numbers_of(Counts.of(row[::-1])))
            self.assertEqual(numbers_of(-counts), numbers_of(Counts.of(exchanged(row))))
            self.assertEqual(numbers_of(counts), (row.count("a"), row.count("b"), count_pairs(row)))

    def test_large_numbers(self):
        far = Counts(MANY, 2 * MANY, 5)
        self.assertEqual(numbers_of(~far), (MANY, 2 * MANY, 2 * MANY * MANY - 5))
        self.assertEqual(numbers_of(-far), (2 * MANY, MANY, 2 * MANY * MANY - 5))


class Comparing(unittest.TestCase):
    def test_equal(self):
        for numbers in [(0, 0, 0), (2, 3, 4), (MANY, MANY, 7)]:
            self.assertIs(Counts(*numbers) == Counts(*numbers), True)
            self.assertIs(Counts(*numbers) != Counts(*numbers), False)
        self.assertIs(Counts(2, 3, 4) + Counts(2, 2, 2) == Counts(4, 5, 10), True)

    def test_each_number_counts(self):
        for numbers in [(3, 3, 4), (2, 4, 4), (2, 3, 5), (3, 2, 4), (4, 3, 2)]:
            self.assertIs(Counts(2, 3, 4) == Counts(*numbers), False)
            self.assertIs(Counts(2, 3, 4) != Counts(*numbers), True)

    def test_other_values(self):
        for value in [*NO_COUNTS, NO_ROWS, AnyValueEqual()]:
            for counts in [Counts(0, 0, 0), Counts(2, 2, 2)]:
                self.assertIs(counts == value, False)
                self.assertIs(counts != value, True)

    def test_other_value_on_the_left(self):
        for value in [None, True, 0, "abba", (2, 2, 2), [2, 2, 2]]:
            self.assertIs(value == Counts(2, 2, 2), False)
            self.assertIs(value != Counts(2, 2, 2), True)


class Containing(unittest.TestCase):
    def test_example(self):
        self.assertIs("baab" in Counts.of("abba"), True)

    def test_all_short_rows(self):
        for length in range(6):
            for numbers, rows in rows_by_counts(length).items():
                for row in all_rows(length):
                    self.assertIs(row in Counts(*numbers), row in rows)

    def test_edges(self):
        self.assertIs("" in Counts(0, 0, 0), True)
        self.assertIs("" in Counts(1, 0, 0), False)
        self.assertIs("a" * 200 in Counts(200, 0, 0), True)
        self.assertIs("a" * 201 in Counts(201, 0, 0), False)
        self.assertIs("aab" in Counts(1, 2, 2), False)
        self.assertIs("ab" in Counts(MANY, MANY, 1), False)

    def test_other_values(self):
        for value in NO_ROWS:
            for counts in [Counts(0, 0, 0), Counts(1, 1, 1), Counts(201, 0, 0)]:
                self.assertIs(value in counts, False)


class LeastAndGreatestRuns(unittest.TestCase):
    def check_runs(self, runs):
        """Check that a value is runs, of whatever number of letters."""
        self.assertIs(type(runs), list)
        for run in runs:
            self.assertIs(type(run), tuple)
            letter, number = run
            self.assertIn(letter, ["a", "b"])
            self.assertGreater(number, 0)
        for one, other in zip(runs, runs[1:]):
            self.assertNotEqual(one[0], other[0])

    def test_examples(self):
        two = Counts(2, 3, 4)
        self.assertEqual(two.least_runs(), [("a", 1), ("b", 2), ("a", 1), ("b", 1)])
        self.assertEqual(two.greatest_runs(), [("b", 1), ("a", 2), ("b", 2)])
        self.assertEqual([Counts(0, 0, 0).least_runs(), Counts(0, 0, 0).greatest_runs()], [[], []])

    def test_all_short_rows(self):
        for length in range(11):
            for numbers, rows in rows_by_counts(length).items():
                least, greatest = Counts(*numbers).least_runs(), Counts(*numbers).greatest_runs()
                self.check_runs(least)
                self.check_runs(greatest)
                self.assertEqual([text_of(least), text_of(greatest)], [min(rows), max(rows)], numbers)

    def test_one_letter_only(self):
        for many in [1, 200, MANY]:
            for runs in [Counts(many, 0, 0).least_runs(), Counts(many, 0, 0).greatest_runs()]:
                self.assertEqual(runs, [("a", many)])
            for runs in [Counts(0, many, 0).least_runs(), Counts(0, many, 0).greatest_runs()]:
                self.assertEqual(runs, [("b", many)])

    def test_pairs_at_the_edges(self):
        for many in [3, MANY]:
            for runs in [Counts(many, 2, 0).least_runs(), Counts(many, 2, 0).greatest_runs()]:
                self.assertEqual(runs, [("b", 2), ("a", many)])
            for runs in [Counts(many, 2, 2 * many).least_runs(), Counts(many, 2, 2 * many).greatest_runs()]:
                self.assertEqual(runs, [("a", many), ("b", 2)])

    def test_sixty_digits(self):
        wide = Counts(MANY, MANY, MANY * 7 + 5)
        self.assertEqual(
            wide.least_runs(), [("a", 7), ("b", MANY - 5), ("a", 1), ("b", 5), ("a", MANY - 8)])
        self.assertEqual(
            wide.greatest_runs(), [("b", MANY - 8), ("a", 5), ("b", 1), ("a", MANY - 5), ("b", 7)])
        most = 10 ** 61 + 3
        self.assertEqual(
            Counts(most, 3, 3 * most - 1).least_runs(), [("a", most - 1), ("b", 1), ("a", 1), ("b", 2)])
        self.assertEqual(
            Counts(most, 3, 3 * most - 1).greatest_runs(), [("a", most - 1), ("b", 1), ("a", 1), ("b", 2)])

    def test_returned_lists_are_new(self):
        counts = Counts(2, 3, 4)
        counts.least_runs().append(("a", 1))
        counts.greatest_runs().clear()
        self.assertEqual(counts.least_runs(), [("a", 1), ("b", 2), ("a", 1), ("b", 1)])
        self.assertEqual(counts.greatest_runs(), [("b", 1), ("a", 2), ("b", 2)])
        self.assertEqual(numbers_of(counts), (2, 3, 4))
