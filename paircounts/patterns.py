"""Patterns: rows in which some letters are left out, and the rows that fill them."""

from paircounts.checks import check_number
from paircounts.counts import check_counts, letters_in
from paircounts.errors import InvalidPattern
from paircounts.rows import check_row, pairs_in

MOST_SIGNS = 30
ANY_LETTER = "?"

# A tally is an integer. Its digit p, to the base 2 ** 64, tells how many rows have p pairs, so a shift by some
# digits gives so many more pairs to each row. Rows of up to 64 letters are too few to overflow a digit.
TALLY_BITS = 64
GREATEST_DIGIT = 2 ** 64 - 1


def _check_pattern(value):
    if not isinstance(value, str) or len(value) > MOST_SIGNS or not all([sign in "ab?" for sign in value]):
        raise InvalidPattern(f"not a pattern of 0 to {MOST_SIGNS} letters a, b and ?")


def _number_in(tally, pairs):
    """Return how many rows of a tally have so many pairs."""
    return (tally >> (TALLY_BITS * pairs)) & GREATEST_DIGIT


def _tally_with_a(sign, behind, many_a):
    """Return the tally of the fillings with an a at a sign and many_a letters a in all.

    The list behind holds the tallies of the signs behind that sign, by the number of a.
    """
    if sign == "b" or many_a == 0:
        return 0
    # The a makes a pair with each b behind it.
    many_b = len(behind) - many_a
    return behind[many_a - 1] << (TALLY_BITS * many_b)


def _tally_with_b(sign, behind, many_a):
    """Return the tally of the fillings with a b at a sign, as _tally_with_a does for an a."""
    if sign == "a" or many_a == len(behind):
        return 0
    return behind[many_a]


def _tally(sign, behind, many_a):
    """Return the tally of the fillings with either letter at a sign."""
    return _tally_with_a(sign, behind, many_a) + _tally_with_b(sign, behind, many_a)


def _tallies_of(pattern):
    """Return, for the signs of a pattern from each place on, the list of their tallies by the number of a."""
    # Behind the last sign there is one filling, the empty one, with no a and no pairs.
    found = [[1]]
    for sign in reversed(pattern):
        behind = found[-1]
        found.append([_tally(sign, behind, many_a) for many_a in range(len(behind) + 1)])
    return list(reversed(found))


class Fillings:
    """The fillings of a pattern with given counts, numbered from 0 in ascending order; many is how many there are.

    The pattern may also be longer than those of the interface, up to the 64 letters of a tally.
    """

    def __init__(self, pattern, counts):
        self._pattern = pattern
        self._counts = counts
        self._tallies = _tallies_of(pattern)
        self.many = 0
        if letters_in(counts) == len(pattern):
            self.many = _number_in(self._tallies[0][counts.many_a], counts.pairs)

    def _many_with_a(self, place, many_a, pairs):
        """Return how many ways to fill the signs from a place on, with so many a and pairs, begin with an a."""
        return _number_in(_tally_with_a(self._pattern[place], self._tallies[place + 1], many_a), pairs)

    def at(self, number):
        """Return the filling with a number."""
        many_a, many_b, pairs = self._counts.many_a, self._counts.many_b, self._counts.pairs
        letters = []
        for place in range(len(self._pattern)):
            many_with_a = self._many_with_a(place, many_a, pairs)
            if number < many_with_a:
                letters.append("a")
                many_a, pairs = many_a - 1, pairs - many_b
            else:
                letters.append("b")
                many_b, number = many_b - 1, number - many_with_a
        return "".join(letters)

    def number_of(self, row):
        """Return the number of one of the fillings."""
        many_a, many_b, pairs = self._counts.many_a, self._counts.many_b, self._counts.pairs
        number = 0
        for place, letter in enumerate(row):
            if letter == "a":
                many_a, pairs = many_a - 1, pairs - many_b
            else:
                number += self._many_with_a(place, many_a, pairs)
                many_b -= 1
        return number


def fits(pattern, row):
    """Return whether a row is a filling of a pattern."""
    _check_pattern(pattern)
    check_row(row)
    if len(row) != len(pattern):
        return False
    return all([sign in (letter, ANY_LETTER) for sign, letter in zip(pattern, row)])


def _filled(pattern, letters):
    """Return the pattern with these letters, from left to right, in place of each `?`."""
    filled = pattern
    for letter in letters:
        filled = filled.replace(ANY_LETTER, letter, 1)
    return filled


def pair_range(pattern, many):
    """Return the least and the greatest number of pairs of the fillings with so many a, None if there are none."""
    _check_pattern(pattern)
    check_number(many, 0)
    places = pattern.count(ANY_LETTER)
    more_a = many - pattern.count("a")
    if not 0 <= more_a <= places:
        return None
    # An a that changes its place with a later b has fewer pairs then.
    letters_a, letters_b = "a" * more_a, "b" * (places - more_a)
    return (pairs_in(_filled(pattern, letters_b + letters_a)), pairs_in(_filled(pattern, letters_a + letters_b)))


def count_fillings(pattern, counts):
    """Return the number of fillings of a pattern with these counts."""
    _check_pattern(pattern)
    check_counts(counts)
    return Fillings(pattern, counts).many


def nth_filling(pattern, counts, number):
    """Return the filling of a pattern with these counts that has a number, from 0 in ascending order."""
    _check_pattern(pattern)
    check_counts(counts)
    fillings = Fillings(pattern, counts)
    check_number(number, 0, fillings.many - 1)
    return fillings.at(number)
