"""Promise 19 of stage 3: what holds over the whole program."""

import copy
import unittest
from itertools import product
from random import Random

from paircounts.console import Console
from paircounts.counts import Counts
from paircounts.errors import PairError
from paircounts.live import LiveRow
from paircounts.numbers import count_rows, nth_row, row_number, rows_of
from paircounts.places import certain_row
from paircounts.rows import pairs_in, prefix_counts
from paircounts.runs import counts_of, fewest_far, letter_at, row_of, runs_of
from paircounts.strands import (
    are_strands, count_classes, fewest_free, fewest_strand, is_wide_row, least_row, strands_of, wide_counts,
)
from paircounts.swaps import count_between, fewest_swaps, is_between, is_swap, is_way, swapped, swaps_of, way_between
from paircounts.texts import read_counts, read_runs, read_swap, show_counts, show_runs, show_swap
from tests.values import MANY, all_rows, gaussian, numbers_of, rows_by_counts

SHORT_ROWS = [row for length in range(8) for row in all_rows(length)]
# Rows of up to 40 letters, and of more.
LONG_ROWS = [
    "aabbab" * 6, "ab" * 20, "b" * 30 + "a" * 10, "abbabaabbaababba" * 2, "b" * 38 + "ab", "a" * 40,
    "babbbbbaabbaaabbabbbbbbbbabaaaaaaaabbbba",
]
LONGEST_ROWS = ["a" * 50 + "b" * 100 + "a" * 50, "ab" * 100, "aababbb" * 28, "b" * 199 + "a", "abbabaabbaababba" * 10]


def other_rows(row):
    """Return rows with the same counts as a row: the least, the greatest, itself, and some between if it is short."""
    counts = Counts.of(row)
    found = [row_of(counts.least_runs()), row_of(counts.greatest_runs()), row]
    if len(row) <= 40:
        many = count_rows(counts)
        found.extend([nth_row(counts, number) for number in sorted({many // 3, many // 2, many * 4 // 5})])
    return found


class LiveRowsConsolesAndFunctions(unittest.TestCase):
    def check_all(self, console, live, other):
        """Check that a console, a live row and the functions tell the same, with another row for the fewest swaps."""
        row = live.row
        counts = Counts.of(row)
        self.assertEqual([live.counts == counts, len(live), console.execute("show")], [True, len(row), row or "-"])
        self.assertEqual(console.execute("counts"), f"{counts.many_a} {counts.many_b} {counts.pairs}")
        self.assertTrue(row in live.counts)
        self.assertEqual(counts.pairs, pairs_in(row))
        self.assertEqual(console.execute("swaps"), " ".join([show_swap(swap) for swap in swaps_of(row)]) or "none")
        self.assertEqual(console.execute("certain"), certain_row(live.counts) or "-")
        if len(row) <= 40:
            self.assertEqual(console.execute("rows"), str(count_rows(counts)))
            self.assertEqual(console.execute("number"), str(row_number(row)))
        fewest = fewest_swaps(row, other)
        self.assertEqual(console.execute("fewest " + other), "none" if fewest is None else str(fewest))

    def test_changes_side_by_side(self):
        for start in ["aabbaab", *LONG_ROWS, *LONGEST_ROWS[:2]]:
            console, live = Console(), LiveRow(start)
            console.execute("row " + start)
            for command in ["turn", "swap", "put", "exchange", "swap", "cut", "undo", "swap", "undo", "cut", "turn"]:
                self.change_both(console, live, command)
                self.check_all(console, live, start)
            while live.changes:
                live.undo()
                console.execute("undo")
                self.assertEqual(console.execute("show"), live.row)
            self.assertEqual(live, LiveRow(start))

    def change_both(self, console, live, command):
        row = live.row
        if command == "swap":
            swaps = swaps_of(row)
            if swaps:
                i, j = swaps[len(swaps) // 2]
                self.assertEqual(live.tried((i, j)), swapped(row, (i, j)))
                self.assertEqual(console.execute(f"swap {i} {j}"), live.apply((i, j)))
                self.assertEqual([live.row, live.counts == Counts.of(row)], [swapped(row, (i, j)), True])
        elif command == "put":
            letters = "babba"[:200 - len(row)] or "b"
            if len(row) < 200:
                live.put(letters)
                self.assertEqual(console.execute("put " + letters), "ok")
        elif command == "cut":
            self.assertEqual(console.execute("cut 6"), live.cut(6))
        else:
            {"turn": live.turn, "exchange": live.exchange, "undo": live.undo}[command]()
            self.assertEqual(console.execute(command), "ok")

    def test_the_same_values_are_refused(self):
        for row in ["abba", "aabbab", "ab" * 20]:
            console, live = Console(), LiveRow(row)
            console.execute("row " + row)
            for swap in product(range(7), repeat=2):
                after = self.answer_of(swapped, row, swap)
                self.assertIs(is_swap(row, swap), isinstance(after, str))
                self.assertEqual(self.answer_of(live.tried, swap), after)
                self.assertEqual(self.answer_of(console.execute, f"swap {swap[0]} {swap[1]}"), after)
                if is_swap(row, swap):
                    self.assertEqual(console.execute("undo"), "ok")
            self.assertEqual(live.changes, 0)

    def answer_of(self, call, *arguments):
        """Return what a call returns, or the class of its error."""
        try:
            return call(*arguments)
        except PairError as error:
            return type(error)


class Ways(unittest.TestCase):
    def check_ways(self, row, other):
        fewest = fewest_swaps(row, other)
        for one, two in [(row, other), (other, row)]:
            way, live, middles = way_between(one, two), LiveRow(one), [one]
            self.assertEqual([len(way), is_way(one, two, way)], [fewest, True])
            for swap in way:
                self.assertTrue(is_swap(middles[-1], swap))
                self.assertEqual(read_swap(show_swap(swap)), swap)
                middles.append(swapped(middles[-1], swap))
            self.assertTrue(all([is_between(row, other, middle) for middle in middles[::1 + fewest // 25]]))
            for start in range(0, len(way), 12):
                live.apply(*way[start:start + 12])
                self.assertEqual(live.row, middles[min(start + 12, fewest)])
            self.assertEqual([live.row, live.changes, live.counts == Counts.of(one)], [two, (fewest + 11) // 12, True])
        if len(row) <= 40:
            self.assertGreaterEqual(count_between(row, other), fewest + 1)

    def test_ways_there_and_back(self):
        for row in SHORT_ROWS[::3] + LONG_ROWS + LONGEST_ROWS:
            for other in other_rows(row):
                self.check_ways(row, other)

    def test_fewest_double_swaps_of_runs_and_prefix_counts(self):
        for row in SHORT_ROWS + LONG_ROWS + LONGEST_ROWS[:1]:
            for other in other_rows(row):
                fewest = fewest_swaps(row, other)
                differences = [abs(one - two) for one, two in zip(prefix_counts(row), prefix_counts(other))]
                self.assertEqual(fewest, sum(differences) // 2)
                if len(runs_of(row)) <= 40 and len(runs_of(other)) <= 40:
                    self.assertEqual(fewest_far(runs_of(row), runs_of(other)), fewest)

    def test_rows_that_swaps_lead_to(self):
        for length in range(9):
            for numbers, rows in rows_by_counts(length).items():
                found, newest = {rows[0]}, [rows[0]]
                while newest:
                    reached = {swapped(row, swap) for row in newest for swap in swaps_of(row)}
                    newest = sorted(reached - found)
                    found |= reached
                self.assertEqual(sorted(found), list(rows_of(Counts(*numbers))))
                self.assertEqual(len(found), count_rows(Counts(*numbers)))


class CountsOfLiveRows(unittest.TestCase):
    def test_counts_of_what_is_changed(self):
        source = Random(5)
        for start in ["", "ab", *LONG_ROWS]:
            live, counts = LiveRow(start), Counts.of(start)
            for _ in range(40):
                letters = "".join(source.choice("ab") for _ in range(source.randrange(4)))
                live.put(letters)
                counts = counts + Counts.of(letters)
                self.assertEqual(live.counts, counts)
                live.turn()
                self.assertEqual(live.counts, ~counts)
                live.exchange()
                self.assertEqual(live.counts, -~counts)
                before = live.counts
                if len(live):
                    removed = live.cut(1 + source.randrange(min(3, len(live))))
                    self.assertEqual(live.counts + Counts.of(removed), before)
                counts = live.counts
            self.assertTrue(live.row in counts)

    def test_copies_of_a_row(self):
        for row in ["ab", "abba", "bba"]:
            live = LiveRow(row)
            for _ in range(9):
                live.put(row)
            self.assertEqual([live.counts == Counts.of(row) * 10, live.row in Counts.of(row) * 10], [True, True])


class Texts(unittest.TestCase):
    def test_texts_read_again(self):
        for row in SHORT_ROWS + LONG_ROWS + LONGEST_ROWS:
            counts = Counts.of(row)
            self.assertEqual(read_counts(show_counts(counts)), counts)
            for runs in [counts.least_runs(), counts.greatest_runs()]:
                self.assertEqual(read_runs(show_runs(runs)), runs)
                self.assertEqual(counts_of(read_runs(show_runs(runs))), counts)
            for swap in swaps_of(row)[:30]:
                self.assertEqual(read_swap(show_swap(swap)), swap)
        for numbers in [(MANY, MANY, MANY * MANY), (10 ** 61, 3, 10 ** 61 + 7), (1, 10 ** 62 - 1, 10 ** 62 - 1)]:
            counts = Counts(*numbers)
            self.assertEqual(numbers_of(read_counts(show_counts(counts))), numbers)
            self.assertEqual(counts_of(read_runs(show_runs(counts.least_runs()))), counts)
            self.assertEqual(counts_of(read_runs(show_runs(counts.greatest_runs()))), counts)


class RunsThatGrow(unittest.TestCase):
    def test_all_numbers_times_the_same_factor(self):
        for row in SHORT_ROWS + LONG_ROWS[:3]:
            runs, counts = runs_of(row), Counts.of(row)
            for factor in [1, 2, 7, MANY]:
                grown = [(letter, number * factor) for letter, number in runs]
                found = counts_of(grown)
                expected = (counts.many_a * factor, counts.many_b * factor, counts.pairs * factor * factor)
                self.assertEqual(numbers_of(found), expected)
                for place in range(0, len(row), 1 + len(row) // 8):
                    self.assertEqual(letter_at(grown, place * factor), letter_at(runs, place))
                    self.assertEqual(letter_at(grown, place * factor), row[place])


def with_letters(row, letters):
    """Return a row with two other letters in place of a and b."""
    return "".join([letters["ab".index(letter)] for letter in row])


def mixed(rows, source):
    """Return the letters of rows in one row, each row in its sequence."""
    places = [number for number, row in enumerate(rows) for _ in row]
    source.shuffle(places)
    left = [list(row) for row in rows]
    return "".join([left[number].pop(0) for number in places])


class MixedRows(unittest.TestCase):
    def test_strands_classes_and_swaps_follow_from_the_rows(self):
        source = Random(8)
        chosen = [
            [["aabbba", "baaabb"], ["abba", "baab"], ["ba", "ba"]], [["", ""], ["abab", "abab"], ["b", "b"]],
            [["ab" * 8, other_rows("ab" * 8)[0]], ["abba" * 5, "baab" * 5], ["aab" * 8, other_rows("aab" * 8)[1]]],
            [["aabb" * 5, other_rows("aabb" * 5)[0]], ["bab" * 6, other_rows("bab" * 6)[1]], ["", ""]],
        ]
        for pairs_of_rows in chosen:
            kept = [one for one, _ in pairs_of_rows]
            for _ in range(6):
                row, again, other = [
                    mixed([with_letters(some, two) for some, two in zip(rows, ["ab", "de", "gh"])], source)
                    for rows in [kept, kept, [other for _, other in pairs_of_rows]]
                ]
                self.assertTrue(all([is_wide_row(row), are_strands(strands_of(row))]))
                self.assertEqual([strands_of(row)[at] for at in [0, 3, 6]], [
                    with_letters(some, two) for some, two in zip(kept, ["ab", "de", "gh"])])
                self.assertEqual([wide_counts(row)[1][at] for at in [0, 3, 6]], [pairs_in(some) for some in kept])
                self.check_numbers(row, other, pairs_of_rows)
                self.check_free(row, again)

    def check_numbers(self, row, other, pairs_of_rows):
        classes = 1
        for one, _ in pairs_of_rows:
            classes *= count_rows(Counts.of(one))
        self.assertEqual([count_classes(row), count_classes(other)], [classes, classes])
        fewest = sum(fewest_swaps(*rows) for rows in pairs_of_rows)
        self.assertEqual([fewest_strand(row, other), fewest_strand(other, row)], [fewest, fewest])
        if fewest:
            self.assertIsNone(fewest_free(row, other))

    def check_free(self, row, again):
        """Check two rows that are mixed of the same rows: only letters of different ones change their sequence."""
        groups = [["abdegh".index(letter) // 2 for letter in some] for some in [row, again]]
        numbered = [[(group, some[:at].count(group)) for at, group in enumerate(some)] for some in groups]
        turned = sum(
            1 for two, one in product(range(len(row)), repeat=2)
            if one < two and numbered[1].index(numbered[0][one]) > numbered[1].index(numbered[0][two]))
        self.assertEqual([fewest_free(row, again), fewest_free(again, row)], [turned, turned])
        self.assertEqual([fewest_strand(row, again), strands_of(row) == strands_of(again)], [0, True])
        self.assertEqual(least_row(strands_of(row)), least_row(strands_of(again)))

    def test_rows_of_two_letters(self):
        for row in SHORT_ROWS[::2] + LONG_ROWS:
            for letters in ["ab", "cd", "gh"]:
                wide = with_letters(row, letters)
                self.assertEqual(strands_of(wide)["abcdefgh".index(letters[0])], wide)
                self.assertEqual(count_classes(wide), count_rows(Counts.of(row)))
                self.assertEqual(least_row(strands_of(wide)), wide)
                for other in other_rows(row):
                    self.assertEqual(fewest_strand(wide, with_letters(other, letters)), fewest_swaps(row, other))
                    self.assertEqual(fewest_free(wide, with_letters(other, letters)), 0 if row == other else None)
        row = "aabb" * 15
        counts = Counts.of(row)
        self.assertEqual(count_classes(row), gaussian(30, 30)[counts.pairs])


class SameAgain(unittest.TestCase):
    def test_equal_arguments_give_equal_results(self):
        runs, counts, strands = [("a", 2), ("b", 10)], Counts(2, 3, 4), strands_of("cab")
        calls = [
            (is_wide_row, "cab"), (strands_of, "cab"), (wide_counts, "cab"), (are_strands, strands),
            (least_row, strands), (fewest_free, "cab", "acb"), (fewest_strand, "abba", "baab"),
            (count_classes, "abcabc"), (show_runs, runs), (show_counts, counts), (show_swap, (0, 2)),
            (read_runs, "ax2 bx10"), (read_counts, "a    2 b    3 pairs    4"), (read_swap, "0-2"),
            (way_between, "aabbba", "baaabb"), (lambda *swaps: LiveRow("abba").apply(*swaps), (0, 2), (2, 0)),
            (lambda row: LiveRow(row).counts, "abba"), (lambda row: Console().execute("row " + row), "abba"),
        ]
        for call, *arguments in calls:
            kept = copy.deepcopy(arguments)
            found = call(*arguments)
            self.assertEqual(call(*kept), found)
            self.assertEqual(arguments, kept)
            if isinstance(found, list):
                self.assertIsNot(call(*arguments), found)
                found.clear()
                self.assertNotEqual(call(*arguments), found)
