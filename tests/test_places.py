"""Promises 4 to 7 of stage 2: the letters at the places of the rows with given counts."""

import unittest

from paircounts.counts import Counts
from paircounts.errors import InvalidCounts, InvalidNumber, TooLarge
from paircounts.places import certain_row, is_told, letters_at, prefix_range
from tests.values import MANY, NO_COUNTS, NO_INTEGERS, Raising, rows_by_counts, text_of

LARGE = [
    (MANY, MANY, 0), (MANY, MANY, 1), (MANY, MANY, MANY * MANY), (MANY, MANY, MANY * MANY - 1), (MANY, 2, MANY + 5),
    (3, MANY, MANY + 5), (MANY, 3 * MANY, MANY * MANY + 7), (10 * MANY, 7, 5), (5 * MANY + 3, 5 * MANY, 10 ** 61),
    (10 ** 62 - 1, 10 ** 61 + 1, 10 ** 62 - 1), (MANY, 0, 0), (0, MANY, 0), (1, MANY, MANY // 3), (MANY, 1, 5),
]


def is_possible(numbers, length, many):
    """Return whether some row has so many a among its first letters, as point [10] says it."""
    a, b, p = numbers
    k, j = length, many
    if not (0 <= j <= a and 0 <= k - j <= b):
        return False
    return j * (b - k + j) <= p <= a * (b - k) + j * (a + k) - j * j


def chosen_lengths(numbers):
    """Return lengths at both ends, near the numbers of letters, and some between."""
    a, b, _ = numbers
    total = a + b
    near = [edge + step for edge in [0, a, b, total, abs(a - b), total // 2, total // 3] for step in [-2, -1, 0, 1, 2]]
    return [length for length in sorted(set(near)) if 0 <= length <= total]


class PrefixRange(unittest.TestCase):
    def check_ends(self, numbers, length):
        found = prefix_range(Counts(*numbers), length)
        self.assertIs(type(found), tuple)
        least, greatest = found
        self.assertLessEqual(least, greatest)
        for many, expected in [(least - 1, False), (least, True), (greatest, True), (greatest + 1, False)]:
            self.assertIs(is_possible(numbers, length, many), expected, (numbers, length, many))

    def test_example(self):
        self.assertEqual(prefix_range(Counts(2, 3, 3), 2), (1, 1))

    def test_all_short_rows(self):
        for length in range(11):
            for numbers, rows in rows_by_counts(length).items():
                for many in range(length + 1):
                    found = [row[:many].count("a") for row in rows]
                    self.assertEqual(prefix_range(Counts(*numbers), many), (min(found), max(found)), (numbers, many))

    def test_counts_of_any_size(self):
        for numbers in LARGE:
            for length in chosen_lengths(numbers):
                self.check_ends(numbers, length)

    def test_counts_of_some_hundred_letters(self):
        for numbers in [(150, 170, pairs) for pairs in [0, 1, 2, 169, 170, 171, 149, 12000, 25499, 25500]]:
            for length in range(321):
                self.check_ends(numbers, length)

    def test_all_letters_and_none(self):
        for a, b, p in LARGE:
            self.assertEqual(prefix_range(Counts(a, b, p), 0), (0, 0))
            self.assertEqual(prefix_range(Counts(a, b, p), a + b), (a, a))
        self.assertEqual(prefix_range(Counts(0, 0, 0), 0), (0, 0))

    def test_many_times_the_same_row(self):
        counts = Counts.of("aabbba") * MANY
        numbers = (counts.many_a, counts.many_b, counts.pairs)
        self.assertEqual(numbers[:2], (3 * MANY, 3 * MANY))
        for length in chosen_lengths(numbers):
            self.check_ends(numbers, length)

    def test_no_pairs_and_all_pairs(self):
        self.assertEqual(prefix_range(Counts(MANY, MANY, 0), MANY + 3), (3, 3))
        self.assertEqual(prefix_range(Counts(MANY, MANY, MANY * MANY), MANY + 3), (MANY, MANY))
        self.assertEqual(prefix_range(Counts(MANY, MANY, 1), MANY), (1, 1))
        # Of j letters a at the front each one has a pair with j letters b behind, and 10 ** 15 squared is MANY.
        self.assertEqual(prefix_range(Counts(MANY, MANY, MANY), MANY), (1, 10 ** 15))
        self.assertEqual(prefix_range(Counts(MANY, MANY, MANY - 1), MANY), (1, 10 ** 15 - 1))


class LettersAt(unittest.TestCase):
    def test_examples(self):
        far = Counts(MANY, 2, MANY + 5)
        self.assertEqual([letters_at(far, 0), letters_at(Counts(2, 3, 0), 0)], ["a", "b"])

    def test_all_short_rows(self):
        for length in range(11):
            for numbers, rows in rows_by_counts(length).items():
                for place in range(length):
                    found = "".join(sorted({row[place] for row in rows}))
                    self.assertEqual(letters_at(Counts(*numbers), place), found, (numbers, place))

    def test_counts_of_any_size_with_one_row(self):
        self.assertEqual([letters_at(Counts(MANY, 0, 0), place) for place in [0, 7, MANY - 1]], ["a"] * 3)
        self.assertEqual([letters_at(Counts(0, MANY, 0), place) for place in [0, 7, MANY - 1]], ["b"] * 3)
        none, one = Counts(MANY, MANY, 0), Counts(MANY, MANY, 1)
        places = [0, MANY - 2, MANY - 1, MANY, MANY + 1, 2 * MANY - 1]
        self.assertEqual([letters_at(none, place) for place in places], ["b", "b", "b", "a", "a", "a"])
        self.assertEqual([letters_at(one, place) for place in places], ["b", "b", "a", "b", "a", "a"])
        self.assertEqual([letters_at(-none, place) for place in places], ["a", "a", "a", "b", "b", "b"])
        self.assertEqual([letters_at(-one, place) for place in places], ["a", "a", "b", "a", "b", "b"])
        third = Counts(1, MANY, 5)
        self.assertEqual([letters_at(third, MANY - step) for step in [4, 5, 6]], ["b", "a", "b"])

    def test_counts_of_any_size_with_many_rows(self):
        # Two letters a in front of so many b: their numbers of pairs, at most MANY each, add up to MANY + 5.
        counts = Counts(2, MANY, MANY + 5)
        half = MANY // 2
        for places, letters in [
            ([0, 1, half - 4, half - 3, half - 1, half, MANY - 5, MANY - 4], "ab"),
            ([half - 2, MANY - 3, MANY - 2, MANY, MANY + 1], "b"),
        ]:
            self.assertEqual([letters_at(counts, place) for place in places], [letters] * len(places))
        # Two letters b behind letters a: their pairs are at most MANY each, so the first one has at least 5.
        far = Counts(MANY, 2, MANY + 5)
        for places, letters in [
            ([5, 6, half, half + 2, half + 4, half + 5, MANY, MANY + 1], "ab"),
            ([0, 3, 4, half + 3], "a"),
        ]:
            self.assertEqual([letters_at(far, place) for place in places], [letters] * len(places))

    def test_middle_of_many_times_the_same_row(self):
        counts = Counts.of("abba") * MANY
        for place in [0, 1, 17, MANY, 2 * MANY, 4 * MANY - 1]:
            self.assertEqual(letters_at(counts, place), "ab")


class CertainRow(unittest.TestCase):
    def test_examples(self):
        self.assertEqual(certain_row(Counts(3, 3, 8)), "aababb")
        self.assertEqual(certain_row(Counts(2, 2, 2)), "????")

    def test_all_short_rows(self):
        for length in range(11):
            for numbers, rows in rows_by_counts(length).items():
                found = [sorted({row[place] for row in rows}) for place in range(length)]
                expected = "".join([letters[0] if len(letters) == 1 else "?" for letters in found])
                self.assertEqual(certain_row(Counts(*numbers)), expected, numbers)

    def test_both_ends_certain(self):
        self.assertEqual(certain_row(Counts(5, 5, 2)), "bbb????aaa")
        self.assertEqual(certain_row(Counts(100, 100, 2)), "b" * 98 + "????" + "a" * 98)
        self.assertEqual(certain_row(Counts(100, 100, 9998)), "a" * 98 + "????" + "b" * 98)

    def test_no_letters_and_the_most(self):
        self.assertEqual(certain_row(Counts(0, 0, 0)), "")
        self.assertEqual(certain_row(Counts(200, 0, 0)), "a" * 200)
        self.assertEqual(certain_row(Counts(0, 200, 0)), "b" * 200)
        self.assertEqual(certain_row(Counts(100, 100, 5000)), "?" * 200)
        self.assertEqual(certain_row(Counts(100, 100, 10000)), "a" * 100 + "b" * 100)

    def test_every_certain_letter_is_in_the_least_row(self):
        for numbers in [(100, 100, 40), (60, 140, 8390), (3, 197, 590), (197, 3, 3), (100, 100, 9950)]:
            counts = Counts(*numbers)
            found = certain_row(counts)
            for row in [text_of(counts.least_runs()), text_of(counts.greatest_runs())]:
                self.assertEqual(len(found), len(row))
                self.assertTrue(all(sign in ("?", letter) for sign, letter in zip(found, row)))


class IsTold(unittest.TestCase):
    def test_example(self):
        self.assertIs(is_told(Counts(2, 2, 2)), False)

    def test_all_short_rows(self):
        for length in range(11):
            for numbers, rows in rows_by_counts(length).items():
                self.assertIs(is_told(Counts(*numbers)), len(rows) == 1, numbers)

    def test_counts_of_any_size(self):
        most = MANY * MANY
        for pairs in [0, 1, most - 1, most]:
            self.assertIs(is_told(Counts(MANY, MANY, pairs)), True)
        for pairs in [2, 3, MANY, most // 2, most - 3, most - 2]:
            self.assertIs(is_told(Counts(MANY, MANY, pairs)), False)
        for numbers in [(0, MANY, 0), (MANY, 0, 0), (1, MANY, 7), (MANY, 1, 7)]:
            self.assertIs(is_told(Counts(*numbers)), True)
        self.assertIs(is_told(Counts(2, MANY, 7)), False)
        self.assertIs(is_told(Counts(MANY, 2, 7)), False)


class ErrorsOfPlaces(Raising, unittest.TestCase):
    def test_no_counts(self):
        for value in NO_COUNTS:
            self.check_raises(InvalidCounts, prefix_range, value, 0)
            self.check_raises(InvalidCounts, letters_at, value, 0)
            self.check_raises(InvalidCounts, certain_row, value)
            self.check_raises(InvalidCounts, is_told, value)

    def test_no_length(self):
        for counts in [Counts(2, 3, 3), Counts(0, 0, 0), Counts(MANY, MANY, 5)]:
            letters = counts.many_a + counts.many_b
            for value in [*NO_INTEGERS, -1, letters + 1, letters + MANY, -MANY]:
                self.check_raises(InvalidNumber, prefix_range, counts, value)

    def test_no_place(self):
        for counts in [Counts(2, 3, 3), Counts(0, 0, 0), Counts(1, 0, 0), Counts(MANY, MANY, 5)]:
            letters = counts.many_a + counts.many_b
            for value in [*NO_INTEGERS, -1, letters, letters + 1, letters + MANY, -MANY]:
                self.check_raises(InvalidNumber, letters_at, counts, value)

    def test_numbers_that_python_refuses_to_write(self):
        counts = Counts(1, 1, 1)
        for _ in range(150):
            counts = counts * MANY
        self.assertGreater(counts.many_a.bit_length(), 14900)
        for value in [-1, 2 * counts.many_a + 1, None]:
            self.check_raises(InvalidNumber, lambda: prefix_range(counts, value))
            self.check_raises(InvalidNumber, lambda: letters_at(counts, value))
        self.check_raises(TooLarge, certain_row, counts)
        self.assertEqual(prefix_range(counts, 1), (0, 1))
        self.assertIs(is_told(counts), False)

    def test_too_many_letters_for_a_row(self):
        for numbers in [(201, 0, 0), (0, 201, 0), (100, 101, 5), (1, 200, 7), (MANY, MANY, MANY)]:
            self.assertEqual(self.check_raises(TooLarge, certain_row, Counts(*numbers)).limit, 200)

    def test_several_wrong_values(self):
        for value in [None, True, -1, "0"]:
            self.check_raises(InvalidCounts, prefix_range, "abba", value)
            self.check_raises(InvalidCounts, letters_at, (2, 2, 2), value)
