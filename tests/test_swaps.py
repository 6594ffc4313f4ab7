"""Promises 12 to 17 of stage 1: double swaps, ways, and the rows between two rows."""

import unittest
from itertools import product

from paircounts.errors import Different, InvalidRow, InvalidSwap, TooLarge
from paircounts.swaps import (
    count_between, fewest_swaps, is_between, is_swap, is_way, swapped, swaps_of, way_between,
)
from tests.values import MANY, NO_INTEGERS, NO_ROWS, Raising, all_rows, rows_by_counts

NO_SWAPS = [
    *NO_INTEGERS, 0, 2, "0-2", [0, 2], (0,), (0, 2, 2), (0, 2, 0), (2, 0), (0, 0), (0, 1), (1, 2), (0, 3), (3, 0),
    (-4, 2), (0, -2), (-1, -1), (True, 2), (False, 2), (0, True), (0, None), ("0", "2"), ((0, 2),), [(0, 2)], (0, MANY),
    (MANY, 2), (-MANY, 2), {0: 2}, {0, 2}, ([0], [2]),
]

FAR_ROW, FAR_OTHER = "a" * 50 + "b" * 100 + "a" * 50, "b" * 50 + "a" * 100 + "b" * 50


class PlaceTuple(tuple):
    """A tuple that is not exactly a tuple."""


class WayList(list):
    """A list that is not exactly a list."""


def is_true_swap(row, i, j):
    """Return whether two places with a place behind them are a double swap, as the document defines it."""
    return row[i] + row[i + 1] == "ab" and row[j] + row[j + 1] == "ba" and (i - j >= 2 or j - i >= 2)


def true_swaps(row):
    """Return all double swaps of a row, tried one by one."""
    places = range(len(row) - 1)
    return [(i, j) for i in places for j in places if is_true_swap(row, i, j)]


def after_swap(row, i, j):
    """Return the row with b a at the places i and i + 1, and a b at j and j + 1."""
    letters = dict(enumerate(row))
    letters.update({i: "b", i + 1: "a", j: "a", j + 1: "b"})
    return "".join([letters[place] for place in range(len(row))])


def distances_from(row):
    """Return how many double swaps lead from a row to each one that can be reached, step by step."""
    found, newest = {row: 0}, [row]
    while newest:
        reached = [(after_swap(one, *swap), found[one] + 1) for one in newest for swap in true_swaps(one)]
        newest = [one for one, _ in dict(reached).items() if one not in found]
        found.update({one: number for one, number in reached if one not in found})
    return found


def ways_of(row, number):
    """Return all lists of so many double swaps that can be made from a row, with the row after them."""
    if number == 0:
        return [([], row)]
    return [
        ([swap, *swaps], last)
        for swap in true_swaps(row) for swaps, last in ways_of(after_swap(row, *swap), number - 1)
    ]


def true_between(row, other, rows):
    """Return which of the rows with the counts of two rows lie between them."""
    return [
        middle for middle in rows if all(
            sorted([row[:end].count("a"), middle[:end].count("a"), other[:end].count("a")])[1]
            == middle[:end].count("a") for end in range(len(row)))
    ]


class IsSwap(Raising, unittest.TestCase):
    def test_examples(self):
        self.assertIs(is_swap("aba", (0, 1)), False)
        self.assertIs(is_swap("abba", (0, 2)), True)

    def test_all_short_rows(self):
        for row in [row for length in range(8) for row in all_rows(length)]:
            swaps = true_swaps(row)
            for value in product(range(-3, len(row) + 2), repeat=2):
                self.assertIs(is_swap(row, value), value in swaps, (row, value))

    def test_other_values(self):
        for value in [*NO_SWAPS, PlaceTuple((0, 2))]:
            self.assertIs(is_swap("abba", value), False, repr(value))
        for row in ["", "a", "ab", "aaa"]:
            self.assertIs(is_swap(row, (0, 2)), False)
            self.assertIs(is_swap(row, (0, 0)), False)

    def test_true_and_false_are_no_places(self):
        self.assertIs(is_swap("aabba", (1, 3)), True)
        self.assertIs(is_swap("aabba", (True, 3)), False)
        self.assertIs(is_swap("babab", (3, 0)), True)
        self.assertIs(is_swap("babab", (3, False)), False)

    def test_last_places(self):
        row = "ba" * 99 + "ab"
        self.assertIs(is_swap(row, (198, 0)), True)
        self.assertIs(is_swap(row, (198, 196)), True)
        self.assertIs(is_swap(row, (199, 0)), False)

    def test_no_rows(self):
        for row in NO_ROWS:
            for value in [(0, 2), None, [0, 2]]:
                self.check_raises(InvalidRow, is_swap, row, value)


class SwapsOf(Raising, unittest.TestCase):
    def test_examples(self):
        self.assertEqual(swaps_of("abba"), [(0, 2)])
        self.assertEqual(swaps_of("babab"), [(3, 0)])
        self.assertEqual(swaps_of("aabbaab"), [(1, 3), (5, 3)])

    def test_rows_without_swaps(self):
        for row in ["", "a", "b", "ab", "aba", "bab", "aabb", "a" * 200, "a" * 100 + "b" * 100]:
            self.assertEqual(swaps_of(row), [])

    def test_all_short_rows(self):
        for row in [row for length in range(10) for row in all_rows(length)]:
            self.assertEqual(swaps_of(row), sorted(true_swaps(row)))

    def test_longest_row(self):
        found = swaps_of("ab" * 100)
        # 100 places with ab, 99 with ba, of which 198 pairs are neighbours.
        self.assertEqual(len(found), 100 * 99 - 198)
        self.assertEqual(found, sorted(found))
        self.assertEqual([found[0], found[-1]], [(0, 3), (198, 195)])

    def test_returned_lists_are_new(self):
        found = swaps_of("abba")
        found.clear()
        self.assertEqual(swaps_of("abba"), [(0, 2)])
        self.assertIs(type(swaps_of("abba")[0]), tuple)

    def test_no_rows(self):
        for row in NO_ROWS:
            self.check_raises(InvalidRow, swaps_of, row)


class Swapped(Raising, unittest.TestCase):
    def test_example(self):
        self.assertEqual(swapped("abba", (0, 2)), "baab")

    def test_all_short_rows(self):
        for row in [row for length in range(9) for row in all_rows(length)]:
            for i, j in true_swaps(row):
                self.assertEqual(swapped(row, (i, j)), after_swap(row, i, j))

    def test_no_swaps(self):
        for value in [*NO_SWAPS, PlaceTuple((0, 2))]:
            self.check_raises(InvalidSwap, swapped, "abba", value)
        for row in ["", "ab", "ba", "aba"]:
            self.check_raises(InvalidSwap, swapped, row, (0, 1))
        self.check_raises(InvalidSwap, swapped, "aba", (0, 1))

    def test_the_row_comes_first(self):
        for row in NO_ROWS:
            for value in [(0, 2), None, (0, 1)]:
                self.check_raises(InvalidRow, swapped, row, value)


class FewestSwapsAndWays(Raising, unittest.TestCase):
    def test_examples(self):
        row, other = "aabbba", "baaabb"
        self.assertEqual(fewest_swaps(row, other), 2)
        self.assertIsNone(way_between("ab", "ba"))
        self.assertIs(is_way(row, other, way_between(row, other)), True)

    def test_all_short_rows(self):
        for length in range(9):
            for rows in rows_by_counts(length).values():
                for row in rows:
                    distances = distances_from(row)
                    self.assertEqual({other: fewest_swaps(row, other) for other in rows}, distances)
                    for other in rows:
                        self.check_way(row, other, distances[other])

    def check_way(self, row, other, fewest):
        way = way_between(row, other)
        self.assertIs(type(way), list)
        self.assertEqual(len(way), fewest)
        reached = row
        for swap in way:
            self.assertIs(type(swap), tuple)
            self.assertGreaterEqual(min(swap), 0)
            self.assertTrue(is_true_swap(reached, *swap), (reached, swap))
            reached = after_swap(reached, *swap)
        self.assertEqual(reached, other)
        self.assertIs(is_way(row, other, way), True)

    def test_other_counts(self):
        pairs_of_rows = [("ab", "ba"), ("", "a"), ("a", "b"), ("abba", "abab"), ("ab", "aabb"), ("a", "aa"), ("b", "")]
        for row, other in pairs_of_rows:
            self.assertIsNone(fewest_swaps(row, other))
            self.assertIsNone(way_between(row, other))
            for value in [[], None, [(0, 2)]]:
                self.assertIs(is_way(row, other, value), False)

    def test_equal_rows(self):
        for row in ["", "a", "abba", "ab" * 100]:
            self.assertEqual(fewest_swaps(row, row), 0)
            self.assertEqual(way_between(row, row), [])
            self.assertIs(is_way(row, row, []), True)

    def test_longest_rows(self):
        self.assertEqual(fewest_swaps(FAR_ROW, FAR_OTHER), 2500)
        self.check_way(FAR_ROW, FAR_OTHER, 2500)
        self.check_way(FAR_OTHER, FAR_ROW, 2500)
        self.check_way("abba" * 50, "baab" * 50, 50)
        self.check_way("a" + "b" * 99 + "a" * 99 + "b", "ba" + "b" * 97 + "ab" + "a" * 98 + "b", 1)

    def test_returned_lists_are_new(self):
        way_between("abba", "baab").append(1)
        self.assertEqual(way_between("abba", "baab"), [(0, 2)])
        way_between("ab", "ab").append(1)
        self.assertEqual(way_between("ab", "ab"), [])

    def test_no_rows(self):
        for value in NO_ROWS:
            for call in [fewest_swaps, way_between]:
                self.check_raises(InvalidRow, call, value, "ab")
                self.check_raises(InvalidRow, call, "ab", value)
                self.check_raises(InvalidRow, call, value, value)


class IsWay(Raising, unittest.TestCase):
    def test_all_lists_of_swaps(self):
        for rows in [rows for length in range(8) for rows in rows_by_counts(length).values()]:
            for row, other in product(rows, repeat=2):
                fewest = fewest_swaps(row, other)
                for number in range(min(fewest + 2, 4)):
                    for swaps, last in ways_of(row, number):
                        self.assertIs(is_way(row, other, swaps), number == fewest and last == other)

    def test_other_values(self):
        self.assertIs(is_way("abba", "baab", [(0, 2)]), True)
        for value in [None, True, 1, "0-2", (), [], (0, 2), ((0, 2),), [[0, 2]], {0: 2}, {(0, 2): 1}, {(0, 2)}]:
            self.assertIs(is_way("abba", "baab", value), False, repr(value))
        for value in [WayList([(0, 2)]), [PlaceTuple((0, 2))], [(0, 2), (1, 3)], [(0, 2), None], [[(0, 2)]]]:
            self.assertIs(is_way("abba", "baab", value), False, repr(value))
        for value in NO_SWAPS:
            self.assertIs(is_way("abba", "baab", [value]), False, repr(value))
        for value in [None, True, False, 0, "", (), {}, set(), WayList(), [()], [(0, 2)], [None]]:
            self.assertIs(is_way("abba", "abba", value), False, repr(value))

    def test_true_is_no_place(self):
        self.assertIs(is_way("aabba", "abaab", [(1, 3)]), True)
        self.assertIs(is_way("aabba", "abaab", [(True, 3)]), False)

    def test_too_long_or_elsewhere(self):
        there_and_back = [(0, 2), (2, 0)]
        self.assertIs(is_way("abba", "abba", there_and_back), False)
        self.assertIs(is_way("abba", "baab", [*there_and_back, (0, 2)]), False)
        self.assertIs(is_way("abba", "baab", []), False)
        self.assertIs(is_way("aabbba", "baaabb", way_between("aabbba", "baaabb")[::-1]), False)

    def test_arguments_stay(self):
        value = [(0, 2)]
        is_way("abba", "baab", value)
        self.assertEqual(value, [(0, 2)])

    def test_no_rows(self):
        for value in NO_ROWS:
            self.check_raises(InvalidRow, is_way, value, "ab", [])
            self.check_raises(InvalidRow, is_way, "ab", value, [])
            self.check_raises(InvalidRow, is_way, value, value, None)


class Between(Raising, unittest.TestCase):
    def test_examples(self):
        row, other = "aabbba", "baaabb"
        self.assertIs(is_between(row, other, "ababab"), True)
        self.assertEqual(count_between(row, other), 3)

    def test_all_short_rows(self):
        for length in range(8):
            for rows in rows_by_counts(length).values():
                for row, other in product(rows, repeat=2):
                    between = true_between(row, other, rows)
                    self.assertEqual(count_between(row, other), len(between))
                    for middle in all_rows(length):
                        self.assertIs(is_between(row, other, middle), middle in between)

    def test_a_way_leads_through_it(self):
        for rows in rows_by_counts(8).values():
            for row, other in product(rows, repeat=2):
                for middle in rows:
                    steps = fewest_swaps(row, middle) + fewest_swaps(middle, other)
                    self.assertIs(is_between(row, other, middle), steps == fewest_swaps(row, other))

    def test_the_rows_themselves(self):
        for row, other in [("", ""), ("abba", "baab"), (FAR_ROW, FAR_OTHER)]:
            self.assertIs(is_between(row, other, row), True)
            self.assertIs(is_between(row, other, other), True)
        self.assertEqual([count_between("", ""), count_between("ab", "ab"), count_between("abba", "baab")], [1, 1, 2])

    def test_middle_with_other_counts(self):
        for middle in ["", "a", "abab", "aabb", "bbaa", "abbaa", "abb", "a" * 200]:
            self.assertIs(is_between("abba", "baab", middle), False)

    def test_middle_with_the_same_counts(self):
        self.assertIs(is_between("baaabb", "aabbba", "ababab"), True)
        self.assertIs(is_between("aabbba", "ababab", "baaabb"), False)
        self.assertIs(is_between("ababab", "baaabb", "aabbba"), False)

    def test_forty_letters(self):
        one, other = "a" * 10 + "b" * 20 + "a" * 10, "b" * 10 + "a" * 20 + "b" * 10
        self.assertEqual(count_between(one, other), count_between(other, one))
        self.assertEqual(count_between(one, other), 719541996)
        self.assertEqual(count_between(one, one), 1)
        self.assertEqual(count_between("a" * 40, "a" * 40), 1)
        self.assertEqual(count_between("ab" * 20, "ab" * 20), 1)

    def test_forty_one_letters(self):
        for row in ["a" * 41, "ab" * 20 + "a", "b" * 200, FAR_ROW]:
            self.assertEqual(self.check_raises(TooLarge, count_between, row, row).limit, 40)
        self.assertEqual(self.check_raises(TooLarge, count_between, FAR_ROW, FAR_OTHER).limit, 40)
        self.assertIs(is_between(FAR_ROW, FAR_OTHER, FAR_ROW), True)

    def test_different(self):
        for row, other in [("ab", "ba"), ("", "a"), ("ab", "aab"), ("abba", "abab"), ("a", "b")]:
            self.check_raises(Different, count_between, row, other)
            self.check_raises(Different, is_between, row, other, row)
            self.check_raises(Different, is_between, row, other, "bb")

    def test_sequence_of_errors(self):
        self.check_raises(Different, count_between, "a" * 41, "b" * 41)
        self.check_raises(Different, count_between, "a" * 41, "a" * 40)
        self.check_raises(Different, count_between, "a" * 40, "a" * 41)
        for value in NO_ROWS:
            self.check_raises(InvalidRow, count_between, value, "ab")
            self.check_raises(InvalidRow, count_between, "ab", value)
            self.check_raises(InvalidRow, count_between, "a" * 41, value)
            self.check_raises(InvalidRow, is_between, value, "ab", "ab")
            self.check_raises(InvalidRow, is_between, "ab", value, "ab")
            self.check_raises(InvalidRow, is_between, "ab", "ab", value)
            self.check_raises(InvalidRow, is_between, "ab", "ba", value)
