"""Promises 17 and 18 of stage 3: the commands of a console, and their errors."""

import unittest
from random import Random

from paircounts.console import Console
from paircounts.counts import Counts
from paircounts.errors import InvalidCommand, InvalidNumber, InvalidRow, InvalidSwap, NothingToUndo, TooLarge
from paircounts.numbers import count_rows, row_number
from paircounts.places import certain_row
from tests.test_swaps import after_swap, distances_from, true_swaps
from tests.values import MANY, NO_INTEGERS, AnyValueEqual, Raising, all_rows, count_pairs, exchanged, rows_by_counts

# Commands of the right form that need a live row.
NEED_A_ROW = [
    "swap 0 2", "put ab", "turn", "exchange", "undo", "cut 1", "show", "counts", "swaps", "certain", "rows", "number",
    "fewest ab", "put c", "cut 0", "fewest c", "swap 0 0",
]
NO_COMMANDS = [
    *[value for value in NO_INTEGERS if not isinstance(value, str)], 0, 1, MANY, ["show"], ("show",), b"show",
    AnyValueEqual(), "", " ", "  ", "\n", "-", "ab", "abba", "ok", "help", "none", "undo;show", "show,turn",
    "Show", "SHOW", "shows", "sho", "show ", " show", "show  ", "show\n", "\nshow", "show\nshow", "show show", "show 1",
    "row", "row ", " row ab", "row  ab", "row ab ", "row ab ab", "Row ab", "row\nab", "row ab\n", "row a\nb", "rowab",
    "row\tab",
    "swap", "swap 0", "swap 0 2 4", "swap 0  2", "swap 0-2", "swap (0, 2)", "swap 0 2 ", "swap  0 2", "swap 00 2",
    "swap 0 02", "swap 0 -2", "swap +0 2", "swap 0 2.0", "swap a b", "swap 0 x", "swap 0 \u0662", "swap 0 \u00b2",
    "swap 1_0 2", "swap 0,2", "swap\t0 2", "swap " + "1" * 32 + " 0", "swap 0 1" + "0" * 31, "swap 0 " + "1" * 3900,
    "swap None None", "swap 0 2\n", "Swap 0 2",
    "put", "put ", "put ab ab", "put  ab", "Put ab", "put ab\n", "put a b",
    "cut", "cut ", "cut 01", "cut -1", "cut +1", "cut 1 1", "cut a", "cut 1.0", "cut 1 ", "cut  1", "cut 1\n", "Cut 1",
    "cut " + "1" * 32, "cut 00", "cut -0", "cut \u0661", "cut True",
    "turn 1", "turn turn", "turned", "exchange ab", "exchange a b", "undo 1", "undo undo", "Undo",
    "counts ab", "count", "Counts", "swaps 1", "certain ab", "certain ", "rows 1", "rows ab", "number 1", "number ab",
    "fewest", "fewest ", "fewest ab ab", "fewest  ab", "Fewest ab", "fewest ab\n",
    "a" * 4000, " " * 4000, "show " * 800, "row " + "ab " * 1300,
]


class Model:
    """What a console answers, worked out from the row alone."""

    def __init__(self):
        self.rows = []

    def answer(self, command):
        name, *words = command.split(" ")
        if name == "row":
            self.rows = [words[0]]
            return "ok"
        if name == "undo":
            self.rows.pop()
            return "ok"
        row = self.rows[-1]
        if name in ("swap", "put", "turn", "exchange", "cut"):
            return self.change(name, words, row)
        counts = (row.count("a"), row.count("b"), count_pairs(row))
        alike = rows_by_counts(len(row))[counts]
        letters = ["".join(sorted({other[place] for other in alike})) for place in range(len(row))]
        return {
            "show": row or "-", "counts": " ".join(map(str, counts)), "rows": str(len(alike)),
            "swaps": " ".join(f"{i}-{j}" for i, j in true_swaps(row)) or "none", "number": str(alike.index(row)),
            "certain": "".join("?" if some == "ab" else some for some in letters) or "-",
            "fewest": str(distances_from(row).get(words[0], "none") if words else ""),
        }[name]

    def change(self, name, words, row):
        if name == "swap":
            after = after_swap(row, int(words[0]), int(words[1]))
        elif name == "cut":
            after = row[:len(row) - int(words[0])]
        else:
            after = {"put": row + "".join(words), "turn": row[::-1], "exchange": exchanged(row)}[name]
        self.rows.append(after)
        return {"swap": after, "cut": row[len(after):]}.get(name, "ok")


def some_command(model, source):
    """Return a command that can be run now, as a source of random numbers gives it."""
    if not model.rows:
        return "row abba"
    row = model.rows[-1]
    letters = "".join(source.choice("ab") for _ in range(source.randrange(1, 4)))
    swaps = true_swaps(row)
    choices = ["turn", "exchange", "show", "counts", "swaps", "certain", "rows", "number", "fewest " + letters]
    choices.append("fewest " + (source.choice(list(distances_from(row))) or "b"))
    if len(row) + len(letters) <= 9:
        choices.extend(["put " + letters] * 3)
    if row:
        choices.append(f"cut {source.randrange(1, 1 + min(3, len(row)))}")
    if swaps:
        choices.extend([f"swap {i} {j}" for i, j in [source.choice(swaps)]] * 3)
    if len(model.rows) > 1:
        choices.extend(["undo"] * 2)
    if source.randrange(12) == 0:
        choices = ["row " + letters * 3]
    return source.choice(choices)


class Commands(Raising, unittest.TestCase):
    def run_all(self, console, lines):
        """Run commands and check their answers, each pair on a line with an arrow between."""
        for line in lines.strip().split("\n"):
            command, answer = line.strip().split(" -> ")
            self.assertEqual(console.execute(command), answer, command)

    def test_example(self):
        console = Console()
        commands = [
            "row abba", "swaps", "swap 0 2", "counts", "rows", "number", "certain", "fewest abba", "turn", "show",
        ]
        answers = ["ok", "0-2", "baab", "2 2 2", "2", "1", "????", "1", "ok", "baab"]
        self.assertEqual([console.execute(command) for command in commands], answers)

    def test_every_command(self):
        self.run_all(Console(), """
            row aabb -> ok
            show -> aabb
            counts -> 2 2 4
            swaps -> none
            certain -> aabb
            rows -> 1
            number -> 0
            fewest aabb -> 0
            fewest abab -> none
            put a -> ok
            show -> aabba
            swaps -> 1-3
            swap 1 3 -> abaab
            swaps -> 3-1
            fewest aabba -> 1
            cut 2 -> ab
            show -> aba
            exchange -> ok
            show -> bab
            undo -> ok
            turn -> ok
            put bb -> ok
            show -> ababb
            rows -> 1
            number -> 0
        """)

    def test_all_letters_cut_and_reverted(self):
        self.run_all(Console(), """
            row abba -> ok
            exchange -> ok
            show -> baab
            cut 4 -> baab
            show -> -
            counts -> 0 0 0
            swaps -> none
            certain -> -
            rows -> 1
            number -> 0
            fewest a -> none
            turn -> ok
            exchange -> ok
            show -> -
            put bb -> ok
            show -> bb
            undo -> ok
            undo -> ok
            undo -> ok
            show -> -
            undo -> ok
            show -> baab
            undo -> ok
            show -> abba
        """)

    def test_a_new_row_begins_anew(self):
        console = Console()
        self.run_all(console, "row abba -> ok\nturn -> ok\nput a -> ok\nrow ab -> ok\nshow -> ab")
        self.check_raises(NothingToUndo, console.execute, "undo")
        self.run_all(console, "show -> ab\nput b -> ok\nundo -> ok\nshow -> ab")
        self.check_raises(NothingToUndo, console.execute, "undo")
        self.run_all(console, "row ab -> ok\nshow -> ab")

    def test_any_sequence(self):
        for seed in range(12):
            source, console, model = Random(seed), Console(), Model()
            for _ in range(120):
                command = some_command(model, source)
                found = console.execute(command)
                self.assertIs(type(found), str)
                self.assertEqual(found, model.answer(command), command)

    def test_undo_leads_back_through_all_changes(self):
        source, console, model = Random(30), Console(), Model()
        self.assertEqual(console.execute("row abab"), model.answer("row abab"))
        while len(model.rows) < 290:
            command = some_command(model, source)
            if command.split(" ")[0] not in ("row", "undo"):
                self.assertEqual(console.execute(command), model.answer(command))
        while len(model.rows) > 1:
            self.assertEqual(console.execute("undo"), model.answer("undo"))
            self.assertEqual(console.execute("show"), model.answer("show"))
        self.check_raises(NothingToUndo, console.execute, "undo")

    def test_two_consoles(self):
        one, other = Console(), Console()
        self.run_all(one, "row abba -> ok\nput a -> ok")
        self.check_raises(InvalidCommand, other.execute, "show")
        self.run_all(other, "row ba -> ok\nturn -> ok\nshow -> ab")
        self.run_all(one, "show -> abbaa\nundo -> ok\nshow -> abba")
        self.check_raises(NothingToUndo, one.execute, "undo")
        self.run_all(other, "undo -> ok\nshow -> ba")

    def test_long_rows(self):
        console, row = Console(), "ab" * 100
        self.assertEqual(console.execute("row " + row), "ok")
        self.assertEqual(console.execute("counts"), "100 100 5050")
        self.assertEqual(console.execute("certain"), "?" * 200)
        self.assertEqual(len(console.execute("swaps").split(" ")), 100 * 99 - 198)
        self.assertEqual(console.execute("swap 0 197"), after_swap(row, 0, 197))
        self.assertEqual(console.execute("fewest " + row), "1")
        self.assertEqual(console.execute("cut 200"), after_swap(row, 0, 197))
        self.assertEqual(console.execute("put " + "b" * 100 + "a" * 100), "ok")
        self.assertEqual(console.execute("counts"), "100 100 0")
        self.assertEqual(console.execute("certain"), "b" * 100 + "a" * 100)
        self.assertEqual(console.execute("fewest " + row), "none")

    def test_forty_letters(self):
        console = Console()
        for row in ["ab" * 20, "a" * 10 + "b" * 20 + "a" * 10, "a" * 40, "b" * 39 + "a"]:
            self.assertEqual(console.execute("row " + row), "ok")
            self.assertEqual(console.execute("rows"), str(count_rows(Counts.of(row))))
            self.assertEqual(console.execute("number"), str(row_number(row)))
            self.assertEqual(console.execute("certain"), certain_row(Counts.of(row)))

    def test_all_short_rows(self):
        for row in [row for length in range(1, 7) for row in all_rows(length)]:
            console, model = Console(), Model()
            console.execute("row " + row)
            model.answer("row " + row)
            for command in ["show", "counts", "swaps", "certain", "rows", "number", "fewest " + row[::-1]]:
                self.assertEqual(console.execute(command), model.answer(command))


class ErrorsOfConsoles(Raising, unittest.TestCase):
    def test_no_commands(self):
        for value in NO_COMMANDS:
            console = Console()
            self.check_raises(InvalidCommand, console.execute, value)
            console.execute("row abba")
            console.execute("turn")
            self.check_raises(InvalidCommand, console.execute, value)
            self.assertEqual([console.execute("show"), console.execute("undo")], ["abba", "ok"])
            self.check_raises(NothingToUndo, console.execute, "undo")

    def test_commands_that_need_a_row(self):
        for command in NEED_A_ROW:
            console = Console()
            self.check_raises(InvalidCommand, console.execute, command)
            self.check_raises(InvalidRow, console.execute, "row abc")
            self.check_raises(InvalidCommand, console.execute, command)

    def test_errors_of_methods_and_functions(self):
        for command, error in [
            ("row abc", InvalidRow), ("row -", InvalidRow), ("row AB", InvalidRow), ("row " + "a" * 201, InvalidRow),
            ("row a\tb", InvalidRow), ("row " + "ab" * 1990, InvalidRow), ("put c", InvalidRow), ("put -", InvalidRow),
            ("put " + "b" * 201, InvalidRow), ("put " + "b" * 197, TooLarge), ("put " + "b" * 200, TooLarge),
            ("swap 0 0", InvalidSwap), ("swap 2 0", InvalidSwap), ("swap 0 1", InvalidSwap), ("swap 0 3", InvalidSwap),
            ("swap 0 " + "1" * 31, InvalidSwap), ("swap " + "9" * 31 + " 2", InvalidSwap), ("cut 0", InvalidNumber),
            ("cut 5", InvalidNumber), ("cut " + "9" * 31, InvalidNumber), ("cut 1" + "0" * 30, InvalidNumber),
            ("fewest abc", InvalidRow), ("fewest -", InvalidRow), ("fewest " + "a" * 201, InvalidRow),
        ]:
            console = Console()
            console.execute("row ab")
            console.execute("put ba")
            found = self.check_raises(error, console.execute, command)
            if error is TooLarge:
                self.assertEqual(found.limit, 200)
            self.assertEqual([console.execute("show"), console.execute("undo")], ["abba", "ok"])
            self.assertEqual(console.execute("show"), "ab")
            self.check_raises(NothingToUndo, console.execute, "undo")

    def test_two_hundred_letters(self):
        console = Console()
        console.execute("row abba")
        self.assertEqual(console.execute("put " + "b" * 196), "ok")
        self.check_raises(TooLarge, console.execute, "put a")
        self.assertEqual(console.execute("show"), "abba" + "b" * 196)

    def test_forty_one_letters(self):
        console = Console()
        console.execute("row " + "ab" * 20)
        console.execute("put a")
        for command in ["rows", "number"]:
            self.assertEqual(self.check_raises(TooLarge, console.execute, command).limit, 40)
        self.assertEqual([console.execute("undo"), console.execute("number")], ["ok", str(row_number("ab" * 20))])

    def test_numbers_of_thirty_one_digits(self):
        console = Console()
        console.execute("row abba")
        for command in ["cut 1" + "0" * 30, "cut " + "9" * 31]:
            self.check_raises(InvalidNumber, console.execute, command)
        for command in ["cut 1" + "0" * 31, "cut " + "9" * 32, "cut 01"]:
            self.check_raises(InvalidCommand, console.execute, command)
