"""The rows with given counts: how many there are, and the number of each one in ascending order."""

from paircounts.checks import check_number, check_size
from paircounts.counts import Counts, check_counts, letters_in
from paircounts.patterns import ANY_LETTER, Fillings
from paircounts.rows import MOST_COUNTED


def _rows_with(counts):
    """Return the rows with these counts as the fillings of a pattern of `?` alone."""
    check_counts(counts)
    many = letters_in(counts)
    check_size(many, MOST_COUNTED)
    return Fillings(ANY_LETTER * many, counts)


def count_rows(counts):
    """Return the number of rows with these counts."""
    return _rows_with(counts).many


def rows_of(counts):
    """Yield the rows with these counts in ascending order."""
    rows = _rows_with(counts)
    for number in range(rows.many):
        yield rows.at(number)


def nth_row(counts, number):
    """Return the row with a number among those with these counts."""
    rows = _rows_with(counts)
    check_number(number, 0, rows.many - 1)
    return rows.at(number)


def row_number(row):
    """Return the number of a row among those with its counts."""
    return _rows_with(Counts.of(row)).number_of(row)
