"""Promises 8 to 13 of stage 3: live rows, their changes, undo and twins."""

import unittest
from random import Random

from paircounts.counts import Counts
from paircounts.errors import InvalidNumber, InvalidRow, InvalidSwap, NothingToUndo, TooLarge
from paircounts.live import LiveRow
from tests.test_swaps import NO_SWAPS, PlaceTuple, after_swap, true_swaps
from tests.values import (
    MANY, NO_INTEGERS, NO_ROWS, AnyValueEqual, Raising, all_rows, count_pairs, exchanged, numbers_of,
)


def state_of(live):
    """Return all that a live row tells about itself."""
    return (live.row, numbers_of(live.counts), live.changes, len(live))


def chain_of_swaps(row, source, most):
    """Return up to so many double swaps, each of the row after the ones before it, and the last row."""
    swaps = []
    for _ in range(most):
        choices = true_swaps(row)
        if choices:
            swaps.append(source.choice(choices))
            row = after_swap(row, *swaps[-1])
    return swaps, row


def changed(live, row, source):
    """Change a live row with this row in a way that a source of random numbers gives, and return the row then."""
    choice = source.randrange(5)
    if choice == 0:
        letters = "".join(source.choice("ab") for _ in range(source.randrange(12)))[:200 - len(row)]
        assert live.put(letters) is None
        return row + letters
    if choice == 1 and row:
        number = source.randrange(1, 1 + min(len(row), 9))
        assert live.cut(number) == row[len(row) - number:]
        return row[:len(row) - number]
    if choice == 2:
        assert live.turn() is None
        return row[::-1]
    if choice == 3:
        assert live.exchange() is None
        return exchanged(row)
    swaps, after = chain_of_swaps(row, source, 1 + source.randrange(12))
    if not swaps:
        live.turn()
        return row[::-1]
    assert live.apply(*swaps) == after
    return after


class LiveRows(Raising, unittest.TestCase):
    def check_state(self, live, row, changes):
        self.assertEqual(state_of(live), (row, (row.count("a"), row.count("b"), count_pairs(row)), changes, len(row)))

    def test_example(self):
        live = LiveRow("abba")
        found = [
            live.apply((0, 2)), live.put("ab"), live.row, live.counts.pairs, live.cut(3), live.undo(), live.row,
            live.changes,
        ]
        self.assertEqual(found, ["baab", None, "baabab", 5, "bab", None, "baabab", 2])

    def test_new_rows(self):
        for row in [row for length in range(6) for row in all_rows(length)] + ["a" * 200, "ab" * 100]:
            self.check_state(LiveRow(row), row, 0)
        self.assertIs(type(LiveRow("ab").counts), Counts)
        self.assertIs(type(LiveRow("ab").changes), int)

    def test_changes_one_after_the_other(self):
        for seed, start in enumerate(["", "abba", "aabbbaab" * 3, "b" * 30, "ab" * 100]):
            source, live = Random(seed), LiveRow(start)
            rows = [start]
            for _ in range(299):
                if len(rows) > 1 and source.randrange(4) == 0:
                    self.assertIsNone(live.undo())
                    rows.pop()
                else:
                    rows.append(changed(live, rows[-1], source))
                self.check_state(live, rows[-1], len(rows) - 1)

    def test_290_changes_reverted_one_by_one(self):
        source, live, rows = Random(9), LiveRow("abab"), ["abab"]
        for number in range(290):
            rows.append(changed(live, rows[-1], source))
            self.assertEqual([live.row, live.changes], [rows[-1], number + 1])
        while len(rows) > 1:
            rows.pop()
            self.assertIsNone(live.undo())
            self.check_state(live, rows[-1], len(rows) - 1)
        self.check_raises(NothingToUndo, live.undo)
        self.check_state(live, "abab", 0)

    def test_what_was_returned_earlier_stays(self):
        live = LiveRow("abba")
        counts, row = live.counts, live.row
        after, tried = live.apply((0, 2)), live.tried((2, 0))
        live.put("bb")
        removed = live.cut(3)
        live.turn()
        live.exchange()
        live.undo()
        self.assertEqual([numbers_of(counts), row, after, tried, removed], [(2, 2, 2), "abba", "baab", "abba", "bbb"])

    def test_properties_cannot_be_assigned(self):
        live = LiveRow("abba")
        for name in ["row", "counts", "changes"]:
            with self.assertRaises(AttributeError):
                setattr(live, name, 1)
        self.check_state(live, "abba", 0)


class ApplyAndTried(Raising, unittest.TestCase):
    def test_none_to_twelve_swaps(self):
        source = Random(11)
        for row in ["aabbbaab" * 3, "ab" * 100, "abba", "babab", "a" * 20 + "b" * 20 + "a" * 20]:
            for many in range(13):
                swaps, after = chain_of_swaps(row, source, many)
                live = LiveRow(row)
                self.assertEqual(len(swaps), many)
                self.assertEqual(live.tried(*swaps), after)
                self.assertEqual([live.row, live.changes], [row, 0])
                self.assertEqual(live.apply(*swaps), after)
                self.assertEqual([live.row, live.changes], [after, 1 if many else 0])
                if many:
                    live.undo()
                self.assertEqual([live.row, live.changes], [row, 0])

    def test_each_swap_is_judged_on_the_row_before_it(self):
        live = LiveRow("abba")
        self.check_raises(InvalidSwap, live.apply, (0, 2), (0, 2))
        self.check_raises(InvalidSwap, live.tried, (0, 2), (0, 2))
        self.check_raises(InvalidSwap, live.apply, (2, 0), (0, 2))
        self.assertEqual(live.apply(*[(0, 2), (2, 0)] * 6), "abba")
        self.assertEqual([live.row, live.changes], ["abba", 1])
        self.assertEqual(live.apply((0, 2), (2, 0), (0, 2)), "baab")
        self.assertEqual(live.changes, 2)

    def test_without_swaps(self):
        live = LiveRow("")
        self.assertEqual([live.apply(), live.tried(), live.changes], ["", "", 0])
        self.check_raises(NothingToUndo, live.undo)
        live = LiveRow("abba")
        live.turn()
        self.assertEqual([live.apply(), live.tried(), live.changes], ["abba", "abba", 1])

    def test_no_swaps(self):
        for value in [*NO_SWAPS, PlaceTuple((0, 2)), AnyValueEqual()]:
            live = LiveRow("abba")
            live.turn()
            for call in [live.apply, live.tried]:
                self.check_raises(InvalidSwap, call, value)
                self.check_raises(InvalidSwap, call, value, (0, 2))
                self.check_raises(InvalidSwap, call, (0, 2), (2, 0), value)
                self.check_raises(InvalidSwap, call, *[(0, 2), (2, 0)] * 5, value)
                self.check_raises(InvalidSwap, call, value, value, None)
                self.assertEqual(state_of(live), ("abba", (2, 2, 2), 1, 4))
        for row in ["", "a", "ab", "aba"]:
            self.check_raises(InvalidSwap, LiveRow(row).apply, (0, 1))
            self.check_raises(InvalidSwap, LiveRow(row).tried, (0, 2))

    def test_arguments_stay(self):
        live, value = LiveRow("abba"), [0, 2]
        self.check_raises(InvalidSwap, live.apply, (0, 2), value)
        self.assertEqual(value, [0, 2])


class PutCutTurnExchange(Raising, unittest.TestCase):
    def test_each_call_is_one_change(self):
        live = LiveRow("aba")
        live.put("")
        live.turn()
        self.assertEqual(state_of(live), ("aba", (2, 1, 1), 2, 3))
        live.exchange()
        self.assertEqual(live.row, "bab")
        self.assertEqual(live.cut(3), "bab")
        self.assertEqual(state_of(live), ("", (0, 0, 0), 4, 0))
        live.turn()
        live.exchange()
        live.put("")
        self.assertEqual(state_of(live), ("", (0, 0, 0), 7, 0))
        rows = []
        for _ in range(7):
            live.undo()
            rows.append(live.row)
        self.assertEqual(rows, ["", "", "", "bab", "aba", "aba", "aba"])

    def test_two_hundred_letters(self):
        live = LiveRow("ab" * 90)
        live.put("a" * 20)
        self.assertEqual(live.row, "ab" * 90 + "a" * 20)
        live.put("")
        self.assertEqual(live.changes, 2)
        for letters in ["a", "b", "ab", "a" * 200]:
            self.assertEqual(self.check_raises(TooLarge, live.put, letters).limit, 200)
        self.assertEqual(state_of(live)[::2], ("ab" * 90 + "a" * 20, 2))
        self.assertEqual(live.cut(200), "ab" * 90 + "a" * 20)
        live.put("b" * 200)
        self.assertEqual([live.row, len(live)], ["b" * 200, 200])
        self.assertEqual(self.check_raises(TooLarge, LiveRow("a").put, "b" * 200).limit, 200)

    def test_all_cuts(self):
        for row in ["a", "ab", "aabba", "ab" * 100]:
            for number in range(1, len(row) + 1):
                live = LiveRow(row)
                self.assertEqual(live.cut(number), row[len(row) - number:])
                self.assertEqual([live.row, live.changes], [row[:len(row) - number], 1])

    def test_no_numbers(self):
        for row in ["", "a", "abba", "ab" * 100]:
            live = LiveRow(row)
            for value in [*NO_INTEGERS, 0, -1, -len(row), len(row) + 1, 201, MANY, -MANY, AnyValueEqual()]:
                self.check_raises(InvalidNumber, live.cut, value)
            self.assertEqual([live.row, live.changes], [row, 0])

    def test_true_is_no_number(self):
        live = LiveRow("ab")
        self.check_raises(InvalidNumber, live.cut, True)
        self.assertEqual([live.cut(1), live.row], ["b", "a"])

    def test_no_rows(self):
        for start in ["", "abba", "a" * 200]:
            live = LiveRow(start)
            for value in [*NO_ROWS, AnyValueEqual()]:
                self.check_raises(InvalidRow, live.put, value)
            self.assertEqual([live.row, live.changes], [start, 0])
        for value in NO_ROWS:
            self.check_raises(InvalidRow, LiveRow, value)


class Undo(Raising, unittest.TestCase):
    def test_nothing_to_undo(self):
        live = LiveRow("abba")
        for _ in range(3):
            self.check_raises(NothingToUndo, live.undo)
            self.assertEqual(state_of(live), ("abba", (2, 2, 2), 0, 4))
        live.turn()
        live.undo()
        self.check_raises(NothingToUndo, live.undo)

    def test_a_new_change_behind_a_reverted_one(self):
        live = LiveRow("aab")
        live.put("b")
        live.put("a")
        live.undo()
        live.exchange()
        self.assertEqual([live.row, live.changes], ["bbaa", 2])
        live.undo()
        self.assertEqual(live.row, "aabb")
        live.undo()
        self.assertEqual([live.row, live.changes], ["aab", 0])
        self.check_raises(NothingToUndo, live.undo)

    def test_calls_with_errors_are_no_changes(self):
        live = LiveRow("abba")
        live.put("ab")
        self.check_raises(InvalidRow, live.put, "c")
        self.check_raises(TooLarge, live.put, "a" * 195)
        self.check_raises(InvalidNumber, live.cut, 7)
        self.check_raises(InvalidSwap, live.apply, (0, 2), (9, 9))
        live.tried((0, 2))
        live.apply()
        self.assertEqual(state_of(live), ("abbaab", (3, 3, 5), 1, 6))
        live.undo()
        self.assertEqual(state_of(live), ("abba", (2, 2, 2), 0, 4))


class TwinsAndEqualRows(Raising, unittest.TestCase):
    def test_the_same_row_and_changes(self):
        live = LiveRow("abba")
        live.apply((0, 2))
        live.put("ab")
        twin = live.twin()
        self.assertIs(type(twin), LiveRow)
        self.assertEqual(state_of(twin), state_of(live))
        self.assertIs(twin == live, True)
        rows = []
        for _ in range(2):
            twin.undo()
            rows.append(twin.row)
        self.assertEqual(rows, ["baab", "abba"])
        self.check_raises(NothingToUndo, twin.undo)
        self.assertEqual([live.row, live.changes], ["baabab", 2])

    def test_independent(self):
        live = LiveRow("abba")
        live.turn()
        twin = live.twin()
        other = twin.twin()
        live.put("a")
        twin.exchange()
        twin.turn()
        other.undo()
        self.assertEqual([live.row, twin.row, other.row], ["abbaa", "baab", "abba"])
        self.assertEqual([live.changes, twin.changes, other.changes], [2, 3, 0])
        self.check_raises(NothingToUndo, other.undo)
        live.undo()
        live.undo()
        self.assertEqual([twin.changes, twin.row], [3, "baab"])
        self.check_raises(NothingToUndo, live.undo)
        for _ in range(3):
            twin.undo()
        self.assertEqual([twin.changes, twin.row], [0, "abba"])

    def test_twin_without_changes(self):
        twin = LiveRow("").twin()
        self.assertEqual(state_of(twin), ("", (0, 0, 0), 0, 0))
        self.check_raises(NothingToUndo, twin.undo)

    def test_equal_if_the_rows_are(self):
        one, other = LiveRow("abba"), LiveRow("ab")
        self.assertIs(one == other, False)
        self.assertIs(one != other, True)
        other.put("ba")
        self.assertIs(one == other, True)
        self.assertIs(one != other, False)
        other.exchange()
        self.assertIs(one == other, False)
        one.apply((0, 2))
        self.assertIs(one == other, True)
        self.assertIs(one == one.twin(), True)
        self.assertIs(LiveRow("") == LiveRow(""), True)
        self.assertIs(LiveRow("baab") == LiveRow("abba"), False)
        self.assertIs(LiveRow("a") == LiveRow("aa"), False)

    def test_other_values(self):
        for live in [LiveRow(""), LiveRow("abba")]:
            for value in [
                None, True, False, 0, 4, "", "abba", b"abba", [], ["abba"], (), {}, Counts(2, 2, 2), object(), LiveRow,
                AnyValueEqual(), [live],
            ]:
                self.assertIs(live == value, False)
                self.assertIs(live != value, True)

    def test_live_rows_are_no_rows(self):
        live = LiveRow("abba")
        self.check_raises(InvalidRow, LiveRow, live)
        self.check_raises(InvalidRow, live.put, live)
        self.check_raises(InvalidNumber, live.cut, live)
        self.check_raises(InvalidSwap, live.apply, live)
