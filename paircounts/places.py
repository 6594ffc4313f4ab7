"""What the counts tell about the letters at the places of their rows."""

from math import isqrt

from paircounts.checks import check_number, check_size
from paircounts.counts import check_counts, letters_in
from paircounts.rows import MOST_LETTERS


def _greatest_prefix_count(counts, length):
    """Return the greatest number of a among the first so many letters of the rows with these counts."""
    # With j letters a there, at least j * (many_b - length + j) pairs are unavoidable. This grows with j, so the
    # greatest j is the whole part of the greater solution of the equation with the pairs of the counts.
    rest = counts.many_b - length
    most = (isqrt(rest * rest + 4 * counts.pairs) - rest) // 2
    return min(most, counts.many_a, length)


def prefix_range(counts, length):
    """Return the least and the greatest number of a among the first so many letters of the rows with these counts."""
    check_counts(counts)
    check_number(length, 0, letters_in(counts))
    # The fewest a stand there where the most b stand, and exchanging all letters makes these b to a.
    return (length - _greatest_prefix_count(-counts, length), _greatest_prefix_count(counts, length))


def letters_at(counts, place):
    """Return the letters that stand at a place in some rows with these counts: a, b or ab."""
    check_counts(counts)
    check_number(place, 0, letters_in(counts) - 1)
    least, greatest = prefix_range(counts, place)
    next_least, next_greatest = prefix_range(counts, place + 1)
    # For each j from least to next_greatest - 1 some row has j letters a ahead of the place and an a there; for each
    # j from next_least to greatest some row has j letters a ahead of the place and a b there.
    return ("a" if least < next_greatest else "") + ("b" if next_least <= greatest else "")


def certain_row(counts):
    """Return the letters that stand at each place in all rows with these counts, `?` where there are both."""
    check_counts(counts)
    many = letters_in(counts)
    check_size(many, MOST_LETTERS)
    found = [letters_at(counts, place) for place in range(many)]
    return "".join(["?" if letters == "ab" else letters for letters in found])


def is_told(counts):
    """Return whether there is one row only with these counts."""
    check_counts(counts)
    most = counts.many_a * counts.many_b
    return counts.many_a <= 1 or counts.many_b <= 1 or counts.pairs in (0, 1, most - 1, most)
