"""Promises 14 to 16 of stage 3: the texts of runs, counts and double swaps."""

import unittest

from paircounts.counts import Counts
from paircounts.errors import InvalidCounts, InvalidRuns, InvalidSwap, InvalidText
from paircounts.runs import runs_of
from paircounts.texts import read_counts, read_runs, read_swap, show_counts, show_runs, show_swap
from tests.test_runs import NO_RUNS, alternating
from tests.values import MANY, NO_COUNTS, NO_INTEGERS, AnyValueEqual, Raising, all_rows, numbers_of

MOST = 10 ** 62 - 1
NO_STRINGS = [
    *[value for value in NO_INTEGERS if not isinstance(value, str)], 0, 1, MANY, b"ax1", ["ax1"], ("0", "2"), (0, 2),
    [("a", 1)], AnyValueEqual(),
]


RIGHT_TEXT = "a    2 b    3 pairs    4"


def instead_of(part, others):
    """Return the right text with each of the others in place of its part."""
    return [RIGHT_TEXT.replace(part, other, 1) for other in others]


OTHER_TEXTS_OF_COUNTS = [
    *instead_of("   2", ["  2", "    2", "0002", "  02", "   -2", "  +2", " 2.0", " 1_0", "10000 ", " 10000", "01000"]),
    *instead_of("   2", ["\n  2", "\t  2", "\u00a0  2", "   2\n", "   2 ", "2   ", "    ", "", "   2   2", "   b"]),
    *instead_of("   2", ["   x", "   \u0662", "   \u00b2"]),
    *instead_of("   3", ["  3", "    3", "0003", "  03", "  -3", "\n  3", "3   ", "    ", ""]),
    *instead_of("   4", ["  4", "    4", "0004", "  04", "  -4", "\n  4", "4   ", "    ", ""]),
    *instead_of("a ", ["A ", "b ", "", " ", "a", "aa ", "a\n", " a ", "\na ", "ax", "a  "]),
    *instead_of(" b ", [" B ", " a ", "", " ", "b ", " b", "\nb ", " b\n", "  b ", " bb "]),
    *instead_of("pairs", ["pair", "Pairs", "", " ", "pairs ", " pairs", "\npairs", "ab"]),
    *[RIGHT_TEXT + some for some in [" ", "\n", "\t", " c    5", "0 ", " a", RIGHT_TEXT, " " + RIGHT_TEXT]],
    "", " ", "\n", "a", "2", "2    3    4", "a 2 b 3 pairs 4", "a2b3pairs4", "a b pairs", "ax2 bx3", "0-2", "x" * 4000,
    " " * 4000, "a " * 2000, "1" * 4000, "a    2 b    3", "a    2 b    3 pairs", "pairs    4 a    2 b    3",
]


class TupleBelow(tuple):
    """A tuple of another kind."""


def number_of(digits):
    """Return the integer with these digits, of which there can be more than Python reads at once."""
    found = 0
    for start in range(0, len(digits), 100):
        part = digits[start:start + 100]
        found = found * 10 ** len(part) + int(part)
    return found


class TextsOfRuns(Raising, unittest.TestCase):
    def check_index(self, text, index):
        self.assertEqual(self.check_raises(InvalidText, read_runs, text).index, index, text[:80])

    def test_examples(self):
        self.assertEqual(show_runs([("a", 2), ("b", 10)]), "ax2 bx10")
        self.assertEqual(read_runs("bx3 ax1"), [("b", 3), ("a", 1)])

    def test_no_runs(self):
        self.assertEqual([show_runs([]), read_runs("")], ["", []])

    def test_all_short_rows(self):
        for row in [row for length in range(8) for row in all_rows(length)]:
            runs = runs_of(row)
            text = " ".join([letter + "x" + str(number) for letter, number in runs])
            self.assertEqual([show_runs(runs), read_runs(text)], [text, runs])

    def test_sixty_two_digits(self):
        for runs in [[("a", MOST)], [("b", MOST), ("a", MANY), ("b", 1)], [(one, MOST) for one, _ in alternating(40)]]:
            self.assertEqual(read_runs(show_runs(runs)), runs)
        self.assertEqual(show_runs([("a", MOST), ("b", 7)]), "ax" + "9" * 62 + " bx7")
        self.assertEqual(read_runs("ax1" + "0" * 61), [("a", 10 ** 61)])

    def test_sixty_three_digits(self):
        for number in ["1" + "0" * 62, "9" * 63, "1" * 100, "1" * 3900]:
            self.check_index("ax" + number, 0)
            self.check_index("bx1 ax" + number + " bx1", 1)
        self.assertEqual(show_runs([("b", 10 ** 62)]), "bx1" + "0" * 62)

    def test_all_digits_of_any_size(self):
        counts = Counts(2, 3, 4)
        for power in range(1, 201):
            counts = counts * MANY
            if power % 20 == 0:
                text = show_runs(counts.least_runs())
                words = [word[2:] for word in text.split(" ")]
                self.assertTrue([number_of(word) for word in words] == [n for _, n in counts.least_runs()])
                self.assertFalse(any(word.startswith("0") for word in words))
        for digits in [63, 64, 65, 127, 128, 129, 192, 4299, 4300, 4301, 5000, 20000]:
            for number, shown in [(10 ** digits, "1" + "0" * digits), (10 ** digits - 1, "9" * digits)]:
                self.assertTrue(show_runs([("a", number)]) == "ax" + shown, digits)
        self.assertTrue(show_runs([("a", 10 ** 9000 + 7)]) == "ax1" + "0" * 8999 + "7")

    def test_forty_runs_and_more(self):
        self.assertEqual(read_runs("ax1 bx2 " * 19 + "ax1 bx2"), [("a", 1), ("b", 2)] * 20)
        self.check_index("ax1 bx2 " * 20 + "ax1", 40)
        self.check_index("ax1 bx2 " * 20, 40)
        self.check_index("ax1 bx2 " * 25 + "ax1", 40)
        self.check_index("ax1 bx2 " * 20 + "c", 40)
        self.check_index("ax1 bx2 " * 20 + "bx1", 40)
        self.check_index("ax1 bx2 " * 19 + "ax1 ax2 bx1", 39)

    def test_words_that_are_no_runs(self):
        for word in [
            "a", "ax", "x1", "1", "a1", "cx1", "Ax1", "aX1", "ax0", "ax00", "ax01", "ax-1", "ax+1", "ax1.0", "ax1_0",
            "ax1x", "axa", "aax1", "abx1", "xax1", "ax1,", "ax1\n", "\nax1", "ax\n1", "ax1\t",
            "ax0x1", "ax1bx1", "?x1", "ax1e3", "ax" + "0" * 62, "ax" + "1" * 63, "a*1", "x", "-", "a" * 4000,
            "ax\u0661", "ax\u00b2", "ax1\u0661", "\u0430x1",
        ]:
            self.check_index(word, 0)
            self.check_index(word + " bx1", 0)
            self.check_index("bx2 " + word, 1)
            self.check_index("bx2 ax3 bx1 " + word + " bx0", 3)

    def test_empty_words(self):
        for text, index in [
            (" ", 0), ("  ", 0), (" ax1", 0), ("ax1 ", 1), ("ax1  bx1", 1), ("ax1 bx1 ", 2), ("ax1 bx1  ax1", 2),
            (" " * 4000, 0), ("ax1 bx1   ", 2),
        ]:
            self.check_index(text, index)

    def test_neighbouring_runs_of_one_letter(self):
        for text, index in [
            ("ax1 ax1", 1), ("bx1 bx2", 1), ("ax1 bx1 bx1", 2), ("ax1 bx1 ax2 ax3 bx0", 3), ("ax1 ax0", 1),
            ("ax0 ax1", 0),
        ]:
            self.check_index(text, index)

    def test_the_first_wrong_word(self):
        for text, index in [("ax1 bx0 ax0", 1), ("ax1 bx1 c d e", 2), ("c ax1 ax1", 0), ("ax1 bx1\nax1", 1)]:
            self.check_index(text, index)
        self.check_index("ab" * 2000, 0)
        self.check_index("ax1 bx1 " * 4 + "a" * 3968, 8)

    def test_returned_lists_are_new(self):
        read_runs("ax1").append(("b", 1))
        self.assertEqual(read_runs("ax1"), [("a", 1)])
        read_runs("").append(("b", 1))
        self.assertEqual(read_runs(""), [])

    def test_kinds_of_values(self):
        found = read_runs("ax1 bx2")
        self.assertEqual([type(found), type(found[0]), type(found[0][1])], [list, tuple, int])

    def test_arguments_stay(self):
        runs = [("a", 2), ("b", 10)]
        show_runs(runs)
        self.assertEqual(runs, [("a", 2), ("b", 10)])


class TextsOfCounts(Raising, unittest.TestCase):
    def test_examples(self):
        self.assertEqual(show_counts(Counts(2, 3, 4)), "a    2 b    3 pairs    4")
        self.assertEqual(read_counts("a    2 b    3 pairs    4"), Counts(2, 3, 4))

    def test_four_places(self):
        for numbers, text in [
            ((0, 0, 0), "a    0 b    0 pairs    0"), ((10, 100, 1000), "a   10 b  100 pairs 1000"),
            ((9999, 10000, 99999), "a 9999 b 10000 pairs 99999"), ((999, 0, 0), "a  999 b    0 pairs    0"),
            ((MANY, 1, MANY), f"a 1{'0' * 30} b    1 pairs 1{'0' * 30}"),
            ((MOST, MOST, 12345), f"a {'9' * 62} b {'9' * 62} pairs 12345"),
            ((MOST, MOST, MOST), f"a {'9' * 62} b {'9' * 62} pairs {'9' * 62}"),
        ]:
            self.assertEqual(show_counts(Counts(*numbers)), text)
            self.assertEqual(numbers_of(read_counts(text)), numbers)
            self.assertIs(type(read_counts(text)), Counts)

    def test_all_digits_of_any_size(self):
        counts = Counts(MANY, MANY, MANY * MANY)
        self.assertEqual(show_counts(counts), f"a 1{'0' * 30} b 1{'0' * 30} pairs 1{'0' * 60}")
        for _ in range(160):
            counts = counts * MANY
        shown = show_counts(counts).split(" ")
        self.assertTrue([number_of(digits) for digits in shown[1::2]] == list(numbers_of(counts)))
        self.assertEqual(shown[::2], ["a", "b", "pairs"])
        self.assertGreater(min(len(digits) for digits in shown[1::2]), 4300)

    def test_other_texts(self):
        for text in OTHER_TEXTS_OF_COUNTS:
            self.assertEqual(self.check_raises(InvalidText, read_counts, text).index, 0, text[:80])

    def test_sixty_three_digits(self):
        for digits in ["1" + "0" * 62, "9" * 63, "1" * 1000]:
            texts = [f"a {digits} b    3 pairs    4", f"a    3 b {digits} pairs    4", f"a    3 b    3 pairs {digits}"]
            for text in texts:
                self.assertEqual(self.check_raises(InvalidText, read_counts, text).index, 0)
        text = show_counts(Counts(10 ** 62, 1, 1))
        self.assertEqual(self.check_raises(InvalidText, read_counts, text).index, 0)
        text = show_counts(Counts(MANY * 10, MANY * 10, MANY * MANY * 100))
        self.assertEqual(self.check_raises(InvalidText, read_counts, text).index, 0)

    def test_more_pairs_than_there_can_be(self):
        for text in [
            "a    2 b    3 pairs    7", "a    0 b    0 pairs    1", "a    0 b   99 pairs    1",
            f"a    1 b    1 pairs {'9' * 62}",
        ]:
            self.assertEqual(self.check_raises(InvalidText, read_counts, text).index, 0)
        self.assertEqual(read_counts("a    2 b    3 pairs    6"), Counts(2, 3, 6))


class TextsOfSwaps(Raising, unittest.TestCase):
    def test_examples(self):
        self.assertEqual([show_swap((0, 2)), read_swap("0-2")], ["0-2", (0, 2)])

    def test_any_two_integers_from_0_on(self):
        for value, text in [
            ((0, 0), "0-0"), ((10, 9), "10-9"), ((199, 0), "199-0"), ((MOST, MANY), "9" * 62 + "-1" + "0" * 30),
            ((5, 5), "5-5"), ((0, MOST), "0-" + "9" * 62),
        ]:
            self.assertEqual([show_swap(value), read_swap(text)], [text, value])
            self.assertIs(type(read_swap(text)), tuple)

    def test_all_digits_of_any_size(self):
        self.assertTrue(show_swap((10 ** 5000, 10 ** 64)) == "1" + "0" * 5000 + "-1" + "0" * 64)

    def test_other_texts(self):
        for text in [
            "", "-", "0", "0-", "-2", "0--2", "-0-2", "0-2-", "0-2-4", "00-2", "0-02", "01-2", " 0-2", "0-2 ", "0 - 2",
            "0 2", "0-2\n", "\n0-2", "+0-2", "0-+2", "a-b", "0-b", "0x2", "(0, 2)", "0,2", "1_0-2", "1.0-2", "\u0661-2",
            "0-\u00b2", "0" * 2 + "-0", "-" * 4000, "1" * 4000, "ax1 bx1", "a    2 b    3 pairs    4",
            "1" + "0" * 62 + "-0", "0-1" + "0" * 62, "1" * 63 + "-" + "1" * 63,
        ]:
            self.assertEqual(self.check_raises(InvalidText, read_swap, text).index, 0, text[:80])


class ErrorsOfTexts(Raising, unittest.TestCase):
    def test_no_runs(self):
        for value in NO_RUNS:
            self.check_raises(InvalidRuns, show_runs, value)

    def test_no_counts(self):
        for value in [*NO_COUNTS, AnyValueEqual()]:
            self.check_raises(InvalidCounts, show_counts, value)

    def test_no_swaps(self):
        for value in [
            *NO_INTEGERS, 0, "0-2", [0, 2], (0,), (0, 2, 4), (0, -1), (-1, 0), (-MANY, 2), (True, 2), (0, False),
            (0, None), ("0", "2"), ((0, 2),), ((0, 2), (2, 0)), [(0, 2)], {0: 2}, {0, 2}, ([0], [2]),
            TupleBelow((0, 2)), AnyValueEqual(), (0, AnyValueEqual()), (AnyValueEqual(), 2), (0, b"2"),
        ]:
            self.check_raises(InvalidSwap, show_swap, value)

    def test_no_strings(self):
        for value in NO_STRINGS:
            for call in [read_runs, read_counts, read_swap]:
                self.assertIsNone(self.check_raises(InvalidText, call, value).index)

    def test_arguments_stay(self):
        value = ["ax1"]
        for call in [read_runs, read_counts, read_swap]:
            self.check_raises(InvalidText, call, value)
        self.assertEqual(value, ["ax1"])
