"""A console that changes a row and tells about it, by commands of plain words."""

from paircounts.errors import InvalidCommand
from paircounts.live import LiveRow
from paircounts.numbers import count_rows, row_number
from paircounts.places import certain_row
from paircounts.swaps import fewest_swaps, swaps_of
from paircounts.texts import is_decimal, show_swap

DONE = "ok"
EMPTY = "-"
NONE = "none"

# A number in a command has at most so many digits.
MOST_DIGITS = 31


def _swap_letters(live, first, second):
    return live.apply((first, second))


def _put_letters(live, letters):
    live.put(letters)
    return DONE


def _cut_letters(live, number):
    return live.cut(number)


def _turn_row(live):
    live.turn()
    return DONE


def _exchange_letters(live):
    live.exchange()
    return DONE


def _undo_change(live):
    live.undo()
    return DONE


def _show_row(live):
    return live.row or EMPTY


def _tell_counts(live):
    counts = live.counts
    return f"{counts.many_a} {counts.many_b} {counts.pairs}"


def _tell_swaps(live):
    return " ".join([show_swap(swap) for swap in swaps_of(live.row)]) or NONE


def _tell_certain(live):
    return certain_row(live.counts) or EMPTY


def _tell_rows(live):
    return str(count_rows(live.counts))


def _tell_number(live):
    return str(row_number(live.row))


def _tell_fewest(live, other):
    fewest = fewest_swaps(live.row, other)
    return NONE if fewest is None else str(fewest)


# For each first word the kinds of the words behind it: T is any word, N is a number.
KINDS = {
    "row": "T",
    "swap": "NN",
    "put": "T",
    "turn": "",
    "exchange": "",
    "undo": "",
    "cut": "N",
    "show": "",
    "counts": "",
    "swaps": "",
    "certain": "",
    "rows": "",
    "number": "",
    "fewest": "T",
}

# What carries out each command that needs a live row.
ACTIONS = {
    "swap": _swap_letters,
    "put": _put_letters,
    "turn": _turn_row,
    "exchange": _exchange_letters,
    "undo": _undo_change,
    "cut": _cut_letters,
    "show": _show_row,
    "counts": _tell_counts,
    "swaps": _tell_swaps,
    "certain": _tell_certain,
    "rows": _tell_rows,
    "number": _tell_number,
    "fewest": _tell_fewest,
}


def _words_of(command):
    """Return the words of a command."""
    if not isinstance(command, str) or "\n" in command:
        raise InvalidCommand("not a string without newlines")
    # A space at an end, and two side by side, make an empty word.
    words = command.split(" ")
    if "" in words or words[0] not in KINDS or len(words) != 1 + len(KINDS[words[0]]):
        raise InvalidCommand("not one of the commands")
    return words


def _value_of(word, kind):
    """Return what a word of this kind stands for."""
    if kind == "T":
        return word
    if not is_decimal(word, MOST_DIGITS):
        raise InvalidCommand(f"not a decimal number of at most {MOST_DIGITS} digits")
    return int(word)


class Console:
    """A console with a live row, at first none."""

    def __init__(self):
        self._live = None

    def execute(self, command):
        """Run a command, and return what it answers."""
        name, *words = _words_of(command)
        values = [_value_of(word, kind) for word, kind in zip(words, KINDS[name])]
        if name == "row":
            self._live = LiveRow(values[0])
            return DONE
        live = self._live
        if live is None:
            raise InvalidCommand("there is no row yet")
        action = ACTIONS[name]
        return action(live, *values)
