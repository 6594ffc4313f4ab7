"""Rows of letters a and b."""

from paircounts.checks import check_number
from paircounts.errors import InvalidRow

MOST_LETTERS = 200
# Rows are counted and numbered up to so many letters.
MOST_COUNTED = 40


def is_row(value):
    """Return whether any value is a row."""
    if not isinstance(value, str) or len(value) > MOST_LETTERS:
        return False
    return value.count("a") + value.count("b") == len(value)


def check_row(value):
    """Raise InvalidRow unless the value is a row."""
    if not is_row(value):
        raise InvalidRow(f"not a row of 0 to {MOST_LETTERS} letters a and b")


def prefix_counts(row):
    """Return the numbers of a among the first 0, 1, 2 .. and all letters."""
    check_row(row)
    found = [0]
    for letter in row:
        found.append(found[-1] + (1 if letter == "a" else 0))
    return found


def pairs_in(row):
    """Return how often an a stands somewhere ahead of a b."""
    # Each b ends as many pairs as there are letters a ahead of it.
    return sum([many_a for many_a, letter in zip(prefix_counts(row), row) if letter == "b"])


def walk_rows(row, length):
    """Yield the stretches of so many letters of a row, from left to right."""
    check_row(row)
    check_number(length, 1, len(row))
    for start in range(len(row) - length + 1):
        yield row[start:start + length]
