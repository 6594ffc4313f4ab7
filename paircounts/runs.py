"""Runs: rows of any length, told by the numbers of equal letters that stand side by side."""

from paircounts.checks import check_number, check_size, is_integer
from paircounts.counts import Counts
from paircounts.errors import InvalidNumber, InvalidRuns
from paircounts.rows import MOST_LETTERS, check_row

MOST_RUNS = 40


def _is_run(value):
    if type(value) is not tuple or len(value) != 2:
        return False
    letter, number = value
    return isinstance(letter, str) and letter in ("a", "b") and is_integer(number) and number >= 1


def is_runs(value):
    """Return whether any value is runs."""
    if type(value) is not list or len(value) > MOST_RUNS or not all([_is_run(run) for run in value]):
        return False
    return all([run[0] != after[0] for run, after in zip(value, value[1:])])


def check_runs(value):
    """Raise InvalidRuns unless the value is runs."""
    if not is_runs(value):
        raise InvalidRuns(f"not a list of 0 to {MOST_RUNS} runs")


def runs_of(row):
    """Return the runs of a row."""
    check_row(row)
    found = []
    for letter in row:
        if found and found[-1][0] == letter:
            found[-1] = (letter, found[-1][1] + 1)
        else:
            found.append((letter, 1))
    check_size(len(found), MOST_RUNS)
    return found


def row_of(runs):
    """Return the row for which runs stand."""
    check_runs(runs)
    check_size(sum([number for _, number in runs]), MOST_LETTERS)
    return "".join([letter * number for letter, number in runs])


def counts_of(runs):
    """Return the Counts of the row for which runs stand."""
    check_runs(runs)
    found = Counts(0, 0, 0)
    for letter, number in runs:
        found = found + (Counts(number, 0, 0) if letter == "a" else Counts(0, number, 0))
    return found


def letter_at(runs, place):
    """Return the letter at a place of the row for which runs stand."""
    check_runs(runs)
    check_number(place, 0)
    left = place
    for letter, number in runs:
        if left < number:
            return letter
        left -= number
    raise InvalidNumber("there are fewer letters")


def _side_by_side(runs, other_runs):
    """Return a list of (letter, other letter, number): for so many places in turn, two rows have these letters.

    Both rows have the same number of letters.
    """
    left, other_left = list(reversed(runs)), list(reversed(other_runs))
    found = []
    while left:
        letter, number = left.pop()
        other_letter, other_number = other_left.pop()
        many = min(number, other_number)
        found.append((letter, other_letter, many))
        if number > many:
            left.append((letter, number - many))
        if other_number > many:
            other_left.append((other_letter, other_number - many))
    return found


def _sum_without_signs(low, high):
    """Return the sum of the integers from low to high, each without its sign."""
    if low < 0 < high:
        return _sum_without_signs(low, 0) + _sum_without_signs(0, high)
    return abs(low + high) * (high - low + 1) // 2


def fewest_far(runs, other_runs):
    """Return the fewest double swaps between the rows for which runs stand, None if their counts are different."""
    if counts_of(runs) != counts_of(other_runs):
        return None
    # The difference is how many a more than the other row the first one has so far. Place by place, it grows by 1,
    # shrinks by 1, or stays, and that does not change where both rows keep their letters.
    difference, total = 0, 0
    for letter, other_letter, number in _side_by_side(runs, other_runs):
        if letter == other_letter:
            total += number * abs(difference)
        elif letter == "a":
            total += _sum_without_signs(difference + 1, difference + number)
            difference += number
        else:
            total += _sum_without_signs(difference - number, difference - 1)
            difference -= number
    return total // 2
