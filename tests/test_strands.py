"""Promises 1 to 7 of stage 3: wide rows, their strands and wide counts, and the swaps between them."""

import unittest
from itertools import product
from random import Random

from paircounts.errors import InvalidRow, InvalidStrands
from paircounts.strands import (
    are_strands, count_classes, fewest_free, fewest_strand, is_wide_row, least_row, strands_of, wide_counts,
)
from tests.values import MANY, NO_ROWS, AnyValueEqual, Raising, gaussian
from tests.wide import (
    LETTERS, NO_WIDE_ROWS, after_free_swaps, after_strand_swaps, free_distances, free_swaps_made, is_least,
    prefix_differences, random_row, rows_with_letters_of, stirred, strand_distances, true_counts, true_strands,
    turned_around,
)


class ListBelow(list):
    """A list of another kind."""


SHORT_ROWS = ["".join(letters) for length in range(5) for letters in product(LETTERS, repeat=length)]
# All rows with the same letters as one of these are searched.
LETTERS_OF_ROWS = [
    "", "a", "h", "aabb", "gghh", "abcd", "aceg", "aabbc", "abbcc", "bbdd", "aabbcc", "cccddd", "abcbcd", "ffgghh",
    "abcdef", "abbbccd", "aabbbcc", "aaaabbbb",
]
NO_STRANDS = [
    *[value for value in NO_ROWS if not isinstance(value, str)], "", "abcdefgh", tuple([""] * 7), [""] * 6, [""] * 8,
    ListBelow([""] * 7), {key: "" for key in range(7)}, ["", "", "", "", "", "", None], [None] * 7, [[""]] * 7,
    [b""] * 7, [0] * 7, [True] * 7, [["a"], "", "", "", "", "", ""], [("a",), "", "", "", "", "", ""], [[]] * 7,
    AnyValueEqual(), [AnyValueEqual()] * 7, ["A", "", "", "", "", "", ""], ["a ", "", "", "", "", "", ""],
    ["a\n", "", "", "", "", "", ""], ["c", "", "", "", "", "", ""], ["", "", "", "", "", "", "a"],
    ["", "", "", "", "", "", "i"], ["", "a", "", "", "", "", ""], ["h", "", "", "", "", "", ""], [""] * 400,
    ["a" * 4000, "", "", "", "", "", ""], ["a" * 61, "", "", "", "", "", ""], ["", "", "", "", "", "", "h" * 61],
    ["b" * 61, "b" * 61, "", "", "", "", ""], ["a" * 30 + "b" * 31, "b" * 31, "", "", "", "", ""],
    ["a" * 60, "", "", "", "", "", "h"],
]


class IsWideRow(unittest.TestCase):
    def test_wide_rows(self):
        for value in ["", "a", "h", "abcdefgh", "hgfedcba", "a" * 60, "h" * 60, "abcdefgh" * 7 + "abcd"]:
            self.assertIs(is_wide_row(value), True, value)
        self.assertTrue(all(is_wide_row(value) is True for value in SHORT_ROWS))

    def test_other_values(self):
        for value in [*NO_WIDE_ROWS, AnyValueEqual()]:
            self.assertIs(is_wide_row(value), False, repr(value)[:80])

    def test_every_other_sign(self):
        for sign in [chr(code) for code in range(128) if chr(code) not in LETTERS]:
            for value in [sign, "ah" + sign, sign + "ah", "a" + sign + "h"]:
                self.assertIs(is_wide_row(value), False, repr(value))


class StrandsAndWideCounts(unittest.TestCase):
    def test_examples(self):
        self.assertEqual(strands_of("cab")[:3], ["ab", "cb", "c"])
        self.assertEqual(wide_counts("cab")[1][:3], [1, 0, 0])

    def test_whole_results(self):
        self.assertEqual(strands_of("cabhgfedbc"), ["abb", "cbbc", "cdc", "ed", "fe", "gf", "hg"])
        self.assertEqual(wide_counts("cabhgfedbc"), ([1, 2, 2, 1, 1, 1, 1, 1], [2, 2, 1, 0, 0, 0, 0]))

    def test_no_letters(self):
        self.assertEqual(strands_of(""), [""] * 7)
        self.assertEqual(wide_counts(""), ([0] * 8, [0] * 7))

    def test_all_short_rows(self):
        for row in SHORT_ROWS:
            self.assertEqual(strands_of(row), true_strands(row))
            self.assertEqual(wide_counts(row), true_counts(row))

    def test_sixty_letters(self):
        source = Random(1)
        for letters in [LETTERS, "ab", "gh", "cde", "adg"]:
            for row in [random_row(source, letters, length) for length in [59, 60]]:
                self.assertEqual(strands_of(row), true_strands(row))
                self.assertEqual(wide_counts(row), true_counts(row))
        row = "a" * 20 + "b" * 20 + "c" * 20
        self.assertEqual(wide_counts(row), ([20, 20, 20, 0, 0, 0, 0, 0], [400, 400, 0, 0, 0, 0, 0]))

    def test_kinds_of_values(self):
        strands, counts = strands_of("cab"), wide_counts("cab")
        self.assertEqual([type(strands), type(counts)], [list, tuple])
        self.assertEqual([type(value) for value in counts], [list, list])

    def test_returned_lists_are_new(self):
        strands_of("cab").clear()
        for found in wide_counts("cab"):
            found.append(7)
        self.assertEqual(strands_of("cab"), ["ab", "cb", "c", "", "", "", ""])
        self.assertEqual(wide_counts("cab"), ([1, 1, 1, 0, 0, 0, 0, 0], [1, 0, 0, 0, 0, 0, 0]))

    def test_what_swaps_leave(self):
        source = Random(2)
        rows = SHORT_ROWS[::7] + [random_row(source, LETTERS[:4], 12) for _ in range(30)]
        for row in rows:
            for after in after_free_swaps(row):
                self.assertEqual(strands_of(after), strands_of(row))
            for after in after_strand_swaps(row):
                self.assertEqual(wide_counts(after), wide_counts(row))
                self.assertNotEqual(strands_of(after), strands_of(row))


class AreStrands(unittest.TestCase):
    def test_strands_of_rows(self):
        for row in SHORT_ROWS:
            self.assertIs(are_strands(true_strands(row)), True)

    def test_all_lists_of_short_strings(self):
        texts = [["".join(some) for length in range(4) for some in product(two, repeat=length)] for two in ["ab", "bc"]]
        ends = [["", "c", "d", "cd", "dc", "ccd", "cdc", "dcd"], ["", "d", "dd", "e"], ["", "e"]]
        seen = [0, 0]
        for some in product(*texts, *ends):
            value = [*some, "", ""]
            ab, bc, cd, de, ef = some
            right = [ab.count("b"), bc.count("c"), cd.count("d"), de.count("e")] == [
                bc.count("b"), cd.count("c"), de.count("d"), ef.count("e")]
            self.assertIs(are_strands(value), right, value)
            seen[right] += 1
            if right:
                self.assertEqual(true_strands(least_row(value)), value)
        self.assertTrue(min(seen) > 100)

    def test_each_letter_between_counts(self):
        for place, letter in enumerate(LETTERS[1:7]):
            value = [""] * 7
            value[place] = letter
            self.assertIs(are_strands(value), False, value)
            value[place + 1] = letter
            self.assertIs(are_strands(value), True, value)
            value[place] = ""
            self.assertIs(are_strands(value), False, value)
            value[place + 1] = letter * 2
            value[place] = letter
            self.assertIs(are_strands(value), False, value)
        for place, letter in [(0, "a"), (6, "h")]:
            value = [""] * 7
            value[place] = letter
            self.assertIs(are_strands(value), True, value)

    def test_sixty_letters_and_more(self):
        for letter in LETTERS:
            self.assertIs(are_strands(true_strands(letter * 60)), True)
            self.assertIs(are_strands(true_strands(letter * 61)), False)
        row = "abcdefgh" * 7 + "bcde"
        self.assertIs(are_strands(true_strands(row)), True)
        for letter in LETTERS:
            self.assertIs(are_strands(true_strands(row + letter)), False)

    def test_other_values(self):
        for value in NO_STRANDS:
            self.assertIs(are_strands(value), False, repr(value)[:80])
        deep = "a"
        for _ in range(20):
            deep = [deep]
        self.assertIs(are_strands(deep), False)
        self.assertIs(are_strands([deep] * 7), False)

    def test_arguments_stay(self):
        for row in ["cab", "abcdefgh"]:
            value = true_strands(row)
            are_strands(value)
            self.assertEqual(value, true_strands(row))


class LeastRow(Raising, unittest.TestCase):
    def test_example(self):
        self.assertEqual(least_row(strands_of("cab")), "acb")

    def test_all_short_rows(self):
        least = {}
        for row in SHORT_ROWS:
            least.setdefault(tuple(true_strands(row)), row)
        for row in SHORT_ROWS:
            strands = true_strands(row)
            self.assertEqual(least_row(strands), least[tuple(strands)])

    def test_rows_that_free_swaps_lead_to(self):
        source = Random(3)
        for letters, length in [(LETTERS, 7), ("acegh", 7), ("abcde", 8), ("bdfh", 7)]:
            for row in [random_row(source, letters, length) for _ in range(8)]:
                self.assertEqual(least_row(true_strands(row)), min(free_distances(row)))

    def test_sixty_letters(self):
        source = Random(4)
        for letters in [LETTERS, "abc", "aceg", "bcfg", "ah", "efgh"]:
            for _ in range(5):
                row = random_row(source, letters, 60)
                found = least_row(true_strands(row))
                self.assertEqual(true_strands(found), true_strands(row))
                self.assertTrue(is_least(found), found)
                self.assertLessEqual(found, row)
                self.assertEqual(least_row(true_strands(stirred(row, source, 2000))), found)
        self.assertEqual(least_row(true_strands("h" * 30 + "a" * 30)), "a" * 30 + "h" * 30)
        self.assertEqual(least_row(true_strands("hgfedcba" * 7)), "hgfedcba" * 7)

    def test_no_letters(self):
        self.assertEqual(least_row([""] * 7), "")

    def test_arguments_stay(self):
        value = true_strands("hcab")
        least_row(value)
        self.assertEqual(value, true_strands("hcab"))

    def test_no_strands(self):
        for value in NO_STRANDS:
            self.check_raises(InvalidStrands, least_row, value)
        self.check_raises(InvalidStrands, least_row, ["b", "", "", "", "", "", ""])
        self.check_raises(InvalidStrands, least_row, ["ab", "bb", "", "", "", "", ""])


class FewestFree(unittest.TestCase):
    def test_examples(self):
        self.assertEqual(fewest_free("cab", "acb"), 1)

    def test_a_search_over_all_rows(self):
        for letters in LETTERS_OF_ROWS:
            rows = rows_with_letters_of(letters)
            for row in rows[::1 + len(rows) // 60]:
                found = free_distances(row)
                for other in rows:
                    self.assertEqual(fewest_free(row, other), found.get(other), (row, other))

    def test_both_ways(self):
        for letters in ["aabbcc", "acegb", "abcdef"]:
            rows = rows_with_letters_of(letters)
            for row, other in product(rows[::5], rows):
                self.assertEqual(fewest_free(row, other), fewest_free(other, row))

    def test_sixty_letters(self):
        source = Random(5)
        for letters in [LETTERS, "aceg", "adg", "bcfg", "ah"]:
            for _ in range(5):
                row = random_row(source, letters, 60)
                other = stirred(row, source, 3000)
                self.assertEqual(fewest_free(row, other), free_swaps_made(row, other))
                self.assertEqual(fewest_free(other, row), free_swaps_made(row, other))
                least = least_row(strands_of(row))
                self.assertEqual(fewest_free(row, least), free_swaps_made(row, least))

    def test_rows_that_are_far_apart(self):
        self.assertEqual(fewest_free("a" * 30 + "h" * 30, "h" * 30 + "a" * 30), 900)
        one, other = "a" * 20 + "d" * 20 + "g" * 20, "g" * 20 + "d" * 20 + "a" * 20
        self.assertEqual([fewest_free(one, other), fewest_free(other, one)], [1200, 1200])
        self.assertEqual(fewest_free("ac" * 30, "ca" * 30), 30)
        self.assertEqual(fewest_free("b" + "d" * 59, "d" * 59 + "b"), 59)

    def test_equal_rows(self):
        for row in ["", "a", "abcdefgh", "a" * 60, "ah" * 30]:
            self.assertEqual(fewest_free(row, row), 0)

    def test_other_strands(self):
        for row, other in [
            ("", "a"), ("a", "b"), ("ab", "ba"), ("a", "aa"), ("gh", "hg"), ("abba", "baab"), ("ac", "acc"),
            ("a" * 60, "h" * 60), ("a" * 60, "a" * 59), ("ab" * 30, "ba" * 30),
        ]:
            self.assertIsNone(fewest_free(row, other))
            self.assertIsNone(fewest_free(other, row))


class FewestStrand(unittest.TestCase):
    def test_examples(self):
        self.assertEqual(fewest_strand("abba", "baab"), 1)

    def test_a_search_over_all_rows(self):
        for letters in LETTERS_OF_ROWS:
            rows = rows_with_letters_of(letters)
            for row in rows[::1 + len(rows) // 12]:
                found = strand_distances(row)
                for other in rows:
                    self.assertEqual(fewest_strand(row, other), found.get(other), (row, other))

    def test_sum_of_the_strands(self):
        source = Random(6)
        for letters in ["ab", "abc", "cde", "efgh"]:
            seen = 0
            for _ in range(30):
                row = random_row(source, letters, 60)
                other = mixed_strands(row, source)
                found = [prefix_differences(one, two) for one, two in zip(true_strands(row), true_strands(other))]
                self.assertEqual(fewest_strand(row, other), sum(found) // 2)
                self.assertEqual(fewest_strand(other, row), sum(found) // 2)
                seen += fewest_strand(row, other)
            self.assertGreater(seen, 50)

    def test_sixty_letters(self):
        one, other = "a" * 15 + "b" * 30 + "a" * 15, "b" * 15 + "a" * 30 + "b" * 15
        self.assertEqual([fewest_strand(one, other), fewest_strand(other, one)], [225, 225])
        one, other = "g" * 15 + "h" * 30 + "g" * 15, "h" * 15 + "g" * 30 + "h" * 15
        self.assertEqual([fewest_strand(one, other), fewest_strand(other, one)], [225, 225])
        one, other = "abba" * 6 + "deed" * 9, "baab" * 6 + "edde" * 9
        self.assertEqual(fewest_strand(one, other), 15)

    def test_free_swaps_are_not_counted(self):
        for row, other in [("ac", "ca"), ("cab", "acb"), ("a" * 30 + "h" * 30, "h" * 30 + "a" * 30), ("", "")]:
            self.assertEqual(fewest_strand(row, other), 0)
        self.assertEqual(fewest_strand("abbahhh", "hhhbaab"), 1)

    def test_other_wide_counts(self):
        for row, other in [
            ("", "a"), ("a", "b"), ("ab", "ba"), ("a", "aa"), ("gh", "hg"), ("ac", "acc"), ("abba", "abab"),
            ("abbac", "acbbacc"), ("a" * 60, "h" * 60), ("ab" * 30, "ba" * 30), ("abbacd", "baabdc"),
        ]:
            self.assertIsNone(fewest_strand(row, other))
            self.assertIsNone(fewest_strand(other, row))


def mixed_strands(row, source):
    """Return a row to which strand swaps at places that a source of random numbers gives, and free ones, lead."""
    for _ in range(40):
        places = range(len(row) - 1)
        neighbours = [place for place in places if abs(ord(row[place]) - ord(row[place + 1])) == 1]
        one, two = source.choice(neighbours), source.choice(neighbours)
        if abs(one - two) >= 2 and row[one:one + 2] == row[two:two + 2][::-1]:
            row = turned_around(turned_around(row, one), two)
        row = stirred(row, source, 30)
    return row


class CountClasses(unittest.TestCase):
    def test_example(self):
        self.assertEqual(count_classes("aabbcc"), 1)

    def test_all_rows_with_the_same_wide_counts(self):
        for letters in [*LETTERS_OF_ROWS, "aabbccd", "aabbccdd", "aaabbbbb"]:
            groups = {}
            for row in rows_with_letters_of(letters):
                groups.setdefault(str(true_counts(row)), []).append(row)
            for rows in groups.values():
                many = len({tuple(true_strands(row)) for row in rows})
                self.assertEqual([count_classes(row) for row in rows[:40]], [many] * len(rows[:40]))

    def test_no_letters_and_one_letter(self):
        self.assertEqual(count_classes(""), 1)
        for letter in LETTERS:
            self.assertEqual([count_classes(letter), count_classes(letter * 60)], [1, 1])

    def test_sixty_letters(self):
        half = "a" * 15 + "b" * 30 + "a" * 15
        for row in [half, half.replace("a", "h").replace("b", "g"), "b" * 15 + "a" * 30 + "b" * 15]:
            self.assertEqual(count_classes(row), gaussian(30, 30)[450])
        self.assertEqual(count_classes("ab" * 30), gaussian(30, 30)[465])
        self.assertEqual(count_classes("a" * 30 + "b" * 30), 1)
        numbers = gaussian(20, 20)
        self.assertEqual(count_classes("abc" * 20), numbers[210] * numbers[210])
        self.assertEqual(count_classes("cba" * 20), numbers[190] * numbers[190])
        self.assertEqual(count_classes("aabb" * 10 + "c" * 20), numbers[220])
        self.assertEqual(count_classes("abba" * 6 + "deed" * 9), gaussian(12, 12)[72] * gaussian(18, 18)[162])

    def test_rows_that_swaps_lead_to(self):
        source = Random(7)
        for row in [random_row(source, letters, 60) for letters in [LETTERS, "abc", "fgh"]]:
            self.assertEqual(count_classes(mixed_strands(row, source)), count_classes(row))


class ErrorsOfStrands(Raising, unittest.TestCase):
    def test_no_wide_row(self):
        for value in NO_WIDE_ROWS:
            for call in [strands_of, wide_counts, count_classes]:
                self.check_raises(InvalidRow, call, value)
            for call in [fewest_free, fewest_strand]:
                for row in ["", "ab", "h" * 60]:
                    self.check_raises(InvalidRow, call, value, row)
                    self.check_raises(InvalidRow, call, row, value)
                self.check_raises(InvalidRow, call, value, value)
                self.check_raises(InvalidRow, call, value, MANY)

    def test_sixty_letters_are_accepted(self):
        row = "abcdefgh" * 7 + "hgfe"
        self.assertEqual([len(strands_of(row)), len(wide_counts(row)[0])], [7, 8])
        self.assertEqual([fewest_free(row, row), fewest_strand(row, row)], [0, 0])
        self.assertTrue(is_wide_row(row) and are_strands(strands_of(row)))
        self.assertEqual(len(least_row(strands_of(row))), 60)
        self.assertGreaterEqual(count_classes(row), 1)
        for call in [strands_of, wide_counts, count_classes]:
            self.check_raises(InvalidRow, call, row + "a")
