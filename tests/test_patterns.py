"""Promises 13 to 16 of stage 2: patterns and their fillings."""

import unittest
from itertools import product
from math import comb

from paircounts.counts import Counts
from paircounts.errors import InvalidCounts, InvalidNumber, InvalidPattern, InvalidRow
from paircounts.patterns import count_fillings, fits, nth_filling, pair_range
from tests.values import (
    MANY, NO_COUNTS, NO_INTEGERS, NO_ROWS, Raising, all_rows, count_pairs, gaussian, numbers_of, rows_by_counts,
)

NO_PATTERNS = [
    None, True, False, 0, 1, MANY, b"", b"a?b", [], ["a", "?"], (), ("a", "?"), {}, {"a": 1}, {"a"}, Counts(1, 1, 1),
    object(), "c", "A", "a?c", "a b", " ", "a?\n", "\n", "*", "0", "a??b ", "a" * 31, "?" * 31, "ab?" * 11, "?" * 4000,
    "?" * 29 + "c", "??" * 100,
]


def all_patterns(length):
    """Return all patterns of so many signs."""
    return ["".join(signs) for signs in product("ab?", repeat=length)]


def fillings_of(pattern):
    """Return all fillings of a pattern in ascending order."""
    return ["".join(letters) for letters in product(*["ab" if sign == "?" else sign for sign in pattern])]


def fillings_by_counts(pattern):
    """Return a dict that gives, for the three numbers of counts, the fillings with these counts."""
    found = {}
    for row in fillings_of(pattern):
        found.setdefault((row.count("a"), row.count("b"), count_pairs(row)), []).append(row)
    return found


LONG_PATTERNS = ["ab?b???aab?", "??????????", "a?b?a?b?a?b?", "????b????", "?aaaa?bbbb?", "bb??a??aa?b?"]


class Fits(unittest.TestCase):
    def test_example(self):
        self.assertIs(fits("a?b", "abb"), True)

    def test_all_short_patterns(self):
        for length in range(5):
            for pattern in all_patterns(length):
                for row in [row for many in range(6) for row in all_rows(many)]:
                    self.assertIs(fits(pattern, row), row in fillings_of(pattern), (pattern, row))

    def test_rows_of_another_length(self):
        for row in ["", "a" * 29, "a" * 31, "a" * 200]:
            self.assertIs(fits("?" * 30, row), False)
        for row in ["a", "b", "ab", "a" * 200, "b" * 200]:
            self.assertIs(fits("", row), False)

    def test_thirty_signs(self):
        self.assertIs(fits("?" * 30, "ab" * 15), True)
        self.assertIs(fits("a?" * 15, "ab" * 15), True)
        self.assertIs(fits("?a" * 15, "ab" * 15), False)
        self.assertIs(fits("ab" * 14 + "?a", "ab" * 15), False)
        self.assertIs(fits("", ""), True)


class PairRange(unittest.TestCase):
    def test_examples(self):
        self.assertEqual(pair_range("?bb?", 1), (0, 3))
        self.assertIsNone(pair_range("ab", 2))

    def check_pattern(self, pattern):
        rows = fillings_of(pattern)
        for many in range(len(pattern) + 3):
            pairs = [count_pairs(row) for row in rows if row.count("a") == many]
            expected = (min(pairs), max(pairs)) if pairs else None
            self.assertEqual(pair_range(pattern, many), expected, (pattern, many))

    def test_all_short_patterns(self):
        for length in range(7):
            for pattern in all_patterns(length):
                self.check_pattern(pattern)

    def test_longer_patterns(self):
        for pattern in LONG_PATTERNS:
            self.check_pattern(pattern)

    def test_thirty_signs(self):
        for many in range(31):
            self.assertEqual(pair_range("?" * 30, many), (0, many * (30 - many)))
        self.assertEqual(pair_range("a" * 15 + "?" * 15, 20), (150, 150 + 50))
        self.assertEqual(pair_range("a" * 30, 30), (0, 0))
        self.assertEqual(pair_range("b" * 30, 0), (0, 0))
        self.assertEqual(pair_range("", 0), (0, 0))
        self.assertIs(type(pair_range("?" * 30, 7)), tuple)

    def test_numbers_of_a_that_no_filling_has(self):
        for pattern, many in [
            ("", 1), ("ab?", 0), ("ab?", 3), ("a", 0), ("b", 1), ("?" * 30, 31), ("?", MANY), ("aa??", 1), ("ab??", 4),
        ]:
            self.assertIsNone(pair_range(pattern, many))


class CountingFillings(unittest.TestCase):
    def test_examples(self):
        self.assertEqual(count_fillings("????", Counts(2, 2, 2)), 2)
        self.assertEqual(nth_filling("a???", Counts(2, 2, 2), 0), "abba")

    def check_pattern(self, pattern):
        found = fillings_by_counts(pattern)
        for numbers in rows_by_counts(len(pattern)):
            rows, counts = found.get(numbers, []), Counts(*numbers)
            self.assertEqual(count_fillings(pattern, counts), len(rows), (pattern, numbers))
            self.assertEqual([nth_filling(pattern, counts, number) for number in range(len(rows))], rows)

    def test_all_short_patterns(self):
        for length in range(6):
            for pattern in all_patterns(length):
                self.check_pattern(pattern)

    def test_longer_patterns(self):
        for pattern in LONG_PATTERNS:
            self.check_pattern(pattern)

    def test_counts_with_another_number_of_letters(self):
        for pattern in ["", "?", "ab", "????", "a???", "?" * 30]:
            for numbers in [(31, 0, 0), (0, 31, 0), (2, 1, 1), (15, 16, 7), (MANY, MANY, MANY), (MANY, 0, 0)]:
                self.assertEqual(count_fillings(pattern, Counts(*numbers)), 0)
        self.assertEqual(count_fillings("?", Counts(0, 0, 0)), 0)

    def test_no_signs(self):
        self.assertEqual(count_fillings("", Counts(0, 0, 0)), 1)
        self.assertEqual(nth_filling("", Counts(0, 0, 0), 0), "")

    def test_thirty_open_signs(self):
        for many_a in [0, 1, 2, 14, 15, 16, 29, 30]:
            most = many_a * (30 - many_a)
            found = [count_fillings("?" * 30, Counts(many_a, 30 - many_a, pairs)) for pairs in range(most + 1)]
            self.assertEqual(found, gaussian(many_a, 30 - many_a))
            self.assertEqual(sum(found), comb(30, many_a))

    def test_thirty_signs(self):
        pattern = "a??b??????a???b??????a????ba??"
        self.assertEqual(len(pattern), 30)
        total = 0
        for pairs in range(15 * 15 + 1):
            total += count_fillings(pattern, Counts(15, 15, pairs))
        self.assertEqual(total, comb(pattern.count("?"), 15 - pattern.count("a")))
        counts = Counts(15, 15, 115)
        many = count_fillings(pattern, counts)
        chosen = [0, 1, 2, many // 3, many // 2, many - 2, many - 1]
        rows = [nth_filling(pattern, counts, number) for number in chosen]
        self.assertEqual([fits(pattern, row) and row in counts for row in rows], [True] * 7)
        self.assertEqual(rows, sorted(set(rows)))
        neighbours = [nth_filling(pattern, counts, number) for number in range(200)]
        self.assertEqual(neighbours, sorted(set(neighbours)))

    def test_patterns_without_an_open_sign(self):
        row = "abbab" * 6
        counts = Counts.of(row)
        self.assertEqual([count_fillings(row, counts), nth_filling(row, counts, 0)], [1, row])
        self.assertEqual(count_fillings(row, Counts.of(row[::-1])), 0)

    def test_kinds_of_values(self):
        self.assertIs(type(count_fillings("????", Counts(2, 2, 2))), int)
        self.assertIs(type(nth_filling("????", Counts(2, 2, 2), 0)), str)

    def test_arguments_stay(self):
        counts = Counts(2, 2, 2)
        count_fillings("a???", counts)
        nth_filling("a???", counts, 0)
        self.assertEqual(numbers_of(counts), (2, 2, 2))


class ErrorsOfPatterns(Raising, unittest.TestCase):
    def test_no_pattern(self):
        for value in NO_PATTERNS:
            self.check_raises(InvalidPattern, fits, value, "ab")
            self.check_raises(InvalidPattern, pair_range, value, 1)
            self.check_raises(InvalidPattern, count_fillings, value, Counts(1, 1, 1))
            self.check_raises(InvalidPattern, nth_filling, value, Counts(1, 1, 1), 0)

    def test_no_row(self):
        for value in NO_ROWS:
            self.check_raises(InvalidRow, fits, "a?b", value)
            self.check_raises(InvalidRow, fits, "", value)

    def test_no_counts(self):
        for value in NO_COUNTS:
            self.check_raises(InvalidCounts, count_fillings, "a?b", value)
            self.check_raises(InvalidCounts, nth_filling, "a?b", value, 0)

    def test_no_number_of_a(self):
        for value in [*NO_INTEGERS, -1, -MANY]:
            for pattern in ["", "ab", "a?b", "?" * 30]:
                self.check_raises(InvalidNumber, pair_range, pattern, value)

    def test_no_number_of_a_filling(self):
        for value in [*NO_INTEGERS, -1, 2, 3, MANY, -MANY]:
            self.check_raises(InvalidNumber, nth_filling, "????", Counts(2, 2, 2), value)
        for pattern, numbers in [("a???", (2, 3, 3)), ("ab", (1, 1, 0)), ("?", (MANY, 0, 0)), ("", (1, 0, 0))]:
            for value in [0, 1, -1, None, False]:
                self.check_raises(InvalidNumber, nth_filling, pattern, Counts(*numbers), value)
        many = count_fillings("?" * 30, Counts(15, 15, 112))
        self.check_raises(InvalidNumber, nth_filling, "?" * 30, Counts(15, 15, 112), many)

    def test_several_wrong_values(self):
        self.check_raises(InvalidPattern, fits, "abc", "abc")
        self.check_raises(InvalidPattern, pair_range, "abc", -1)
        self.check_raises(InvalidPattern, count_fillings, "?" * 31, None)
        self.check_raises(InvalidPattern, nth_filling, None, None, None)
        self.check_raises(InvalidCounts, nth_filling, "a?", (1, 1, 1), -1)
        self.check_raises(InvalidCounts, nth_filling, "", "ab", True)
        self.check_raises(InvalidRow, fits, "a?", "abc")
