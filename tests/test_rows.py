"""Promises 1 to 4 of stage 1: rows, prefix counts, pairs and walks."""

import unittest

from paircounts.errors import InvalidNumber, InvalidRow
from paircounts.rows import is_row, pairs_in, prefix_counts, walk_rows
from tests.values import MANY, NO_INTEGERS, NO_ROWS, Raising, all_rows, count_pairs


class IsRow(unittest.TestCase):
    def test_rows(self):
        for row in ["", "a", "b", "abba", "a" * 200, "b" * 200, "ab" * 100, *all_rows(5)]:
            self.assertIs(is_row(row), True, row)

    def test_other_values(self):
        for value in NO_ROWS:
            self.assertIs(is_row(value), False, repr(value)[:80])

    def test_every_other_sign(self):
        for sign in [chr(code) for code in range(128) if chr(code) not in "ab"]:
            for value in [sign, "ab" + sign, sign + "ab", "a" + sign + "b"]:
                self.assertIs(is_row(value), False, repr(value))


class Numbers(unittest.TestCase):
    def test_examples(self):
        self.assertEqual(prefix_counts("abba"), [0, 1, 1, 1, 2])
        self.assertEqual(pairs_in("abba"), 2)

    def test_empty_row(self):
        self.assertEqual(prefix_counts(""), [0])
        self.assertEqual(pairs_in(""), 0)

    def test_all_short_rows(self):
        for row in [row for length in range(9) for row in all_rows(length)]:
            self.assertEqual(prefix_counts(row), [row[:end].count("a") for end in range(len(row) + 1)])
            self.assertEqual(pairs_in(row), count_pairs(row))

    def test_longest_rows(self):
        self.assertEqual(prefix_counts("a" * 200), list(range(201)))
        self.assertEqual(prefix_counts("b" * 200), [0] * 201)
        self.assertEqual(prefix_counts("ba" * 100)[-3:], [99, 99, 100])
        self.assertEqual([pairs_in("a" * 100 + "b" * 100), pairs_in("b" * 100 + "a" * 100)], [10000, 0])
        self.assertEqual([pairs_in("ab" * 100), pairs_in("a" * 200)], [5050, 0])

    def test_returned_lists_are_new(self):
        first = prefix_counts("abba")
        first.append(7)
        self.assertEqual(prefix_counts("abba"), [0, 1, 1, 1, 2])
        self.assertIsNot(prefix_counts(""), prefix_counts(""))
        self.assertIs(type(first), list)


class Walks(unittest.TestCase):
    def test_example(self):
        self.assertEqual(list(walk_rows("abba", 3)), ["abb", "bba"])

    def test_every_length(self):
        self.assertEqual(list(walk_rows("aabab", 1)), ["a", "a", "b", "a", "b"])
        self.assertEqual(list(walk_rows("aabab", 2)), ["aa", "ab", "ba", "ab"])
        self.assertEqual(list(walk_rows("aabab", 4)), ["aaba", "abab"])
        self.assertEqual(list(walk_rows("aabab", 5)), ["aabab"])

    def test_longest_row(self):
        row = "aab" * 66 + "ab"
        self.assertEqual(list(walk_rows(row, 200)), [row])
        self.assertEqual(list(walk_rows(row, 199)), [row[:-1], row[1:]])
        self.assertEqual("".join(walk_rows(row, 1)), row)

    def test_is_a_generator(self):
        walk = walk_rows("abb", 2)
        self.assertIs(iter(walk), walk)
        self.assertEqual([next(walk), next(walk), next(walk, None), next(walk, None)], ["ab", "bb", None, None])

    def test_stopped_walk(self):
        walk = walk_rows("abba", 2)
        self.assertEqual(next(walk), "ab")
        walk.close()
        self.assertEqual(next(walk, None), None)
        self.assertEqual(list(walk_rows("abba", 2)), ["ab", "bb", "ba"])

    def test_walks_side_by_side(self):
        first, second, third = walk_rows("abba", 2), walk_rows("abba", 2), walk_rows("baab", 3)
        self.assertEqual([next(first), next(first), next(second), next(third)], ["ab", "bb", "ab", "baa"])
        self.assertEqual([list(second), list(third), list(first)], [["bb", "ba"], ["aab"], ["ba"]])


class ErrorsOfRows(Raising, unittest.TestCase):
    def test_no_rows(self):
        for value in NO_ROWS:
            self.check_raises(InvalidRow, prefix_counts, value)
            self.check_raises(InvalidRow, pairs_in, value)
            self.check_raises(InvalidRow, lambda: list(walk_rows(value, 1)))

    def test_no_lengths(self):
        for length in [*NO_INTEGERS, 0, -1, 5, MANY, -MANY]:
            self.check_raises(InvalidNumber, lambda: list(walk_rows("abba", length)))
        self.check_raises(InvalidNumber, lambda: list(walk_rows("a" * 200, 201)))
        self.check_raises(InvalidNumber, lambda: list(walk_rows("", 0)))
        self.check_raises(InvalidNumber, lambda: list(walk_rows("", 1)))

    def test_the_row_comes_first(self):
        for value in NO_ROWS:
            for length in [*NO_INTEGERS, 0, 5]:
                self.check_raises(InvalidRow, lambda: list(walk_rows(value, length)))

    def test_arguments_stay(self):
        value = ["a", "b"]
        self.check_raises(InvalidRow, prefix_counts, value)
        self.check_raises(InvalidNumber, lambda: list(walk_rows("ab", value)))
        self.assertEqual(value, ["a", "b"])
