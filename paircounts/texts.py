"""Texts of runs, counts and double swaps, shown and read."""

from paircounts.checks import is_integer
from paircounts.counts import Counts, are_counts, check_counts
from paircounts.errors import InvalidSwap, InvalidText
from paircounts.runs import MOST_RUNS, check_runs

DIGITS = "0123456789"
# A number in a text that is read has at most so many digits.
MOST_DIGITS = 62
# A number in the text of counts is this wide if it has fewer digits.
WIDTH = 4

BLOCK_DIGITS = 64
BLOCK = 10 ** 64


def is_decimal(text, most_digits):
    """Return whether a string is a decimal number from 0 on of at most so many digits, without leading zeros."""
    if not 1 <= len(text) <= most_digits or not all([sign in DIGITS for sign in text]):
        return False
    return text == "0" or text[0] != "0"


def _decimal_of(number):
    """Return all digits of an integer from 0 on."""
    # Python refuses to write an integer of some thousand digits at once, so they are written block by block.
    left, blocks = number, []
    while left >= BLOCK:
        left, block = divmod(left, BLOCK)
        blocks.append(str(block).zfill(BLOCK_DIGITS))
    blocks.append(str(left))
    return "".join(reversed(blocks))


def show_runs(runs):
    """Return the text of runs."""
    check_runs(runs)
    return " ".join([f"{letter}x{_decimal_of(number)}" for letter, number in runs])


def show_counts(counts):
    """Return the text of a Counts object."""
    check_counts(counts)
    many_a, many_b, pairs = [
        _decimal_of(number).rjust(WIDTH) for number in (counts.many_a, counts.many_b, counts.pairs)
    ]
    return f"a {many_a} b {many_b} pairs {pairs}"


def show_swap(value):
    """Return the text of a tuple of two integers from 0 on."""
    if type(value) is not tuple or len(value) != 2 or not all([is_integer(place) and place >= 0 for place in value]):
        raise InvalidSwap("not a tuple of two integers from 0 on")
    return "-".join([_decimal_of(place) for place in value])


def _check_string(value):
    if not isinstance(value, str):
        raise InvalidText(None)


def _is_run_text(word):
    number = word[2:]
    return word[:2] in ("ax", "bx") and is_decimal(number, MOST_DIGITS) and number != "0"


def read_runs(text):
    """Return the runs with a text."""
    _check_string(text)
    # The empty string has no words, but it would be split into an empty one.
    words = text.split(" ") if text else []
    runs = []
    for index, word in enumerate(words):
        if index == MOST_RUNS or not _is_run_text(word) or (runs and runs[-1][0] == word[0]):
            raise InvalidText(index)
        runs.append((word[0], int(word[2:])))
    return runs


def read_counts(text):
    """Return the Counts with a text."""
    _check_string(text)
    words = text.split()
    if len(words) != 6 or not all([is_decimal(word, MOST_DIGITS) for word in words[1::2]]):
        raise InvalidText(0)
    many_a, many_b, pairs = [int(word) for word in words[1::2]]
    # The text that is shown again tells whether the other words and the spaces are right, too.
    if not are_counts(many_a, many_b, pairs) or show_counts(Counts(many_a, many_b, pairs)) != text:
        raise InvalidText(0)
    return Counts(many_a, many_b, pairs)


def read_swap(text):
    """Return the tuple of two integers with a text."""
    _check_string(text)
    words = text.split("-")
    if len(words) != 2 or not all([is_decimal(word, MOST_DIGITS) for word in words]):
        raise InvalidText(0)
    return (int(words[0]), int(words[1]))
