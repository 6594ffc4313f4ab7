"""Counts: the number of a, the number of b and the number of pairs of a row."""

from paircounts.checks import check_number, is_integer
from paircounts.errors import InvalidCounts
from paircounts.rows import check_row, is_row, pairs_in

MOST_COPIES = 10 ** 30
OTHER_LETTER = {"a": "b", "b": "a"}


def are_counts(many_a, many_b, pairs):
    """Return whether any three values are the numbers of counts."""
    for value in (many_a, many_b, pairs):
        if not is_integer(value) or value < 0:
            return False
    return pairs <= many_a * many_b


class Counts:
    """The counts of a row, which can be longer than the rows of this package."""

    def __init__(self, many_a, many_b, pairs):
        if not are_counts(many_a, many_b, pairs):
            raise InvalidCounts("not three integers from 0 on with pairs at most many_a * many_b")
        self._many_a = many_a
        self._many_b = many_b
        self._pairs = pairs

    @classmethod
    def of(cls, row):
        """Return the counts of a row."""
        check_row(row)
        return cls(row.count("a"), row.count("b"), pairs_in(row))

    @property
    def many_a(self):
        """The number of a."""
        return self._many_a

    @property
    def many_b(self):
        """The number of b."""
        return self._many_b

    @property
    def pairs(self):
        """The number of pairs of an a and a later b."""
        return self._pairs

    def __add__(self, other):
        """Return the counts of a row with these counts and one with the other counts behind it."""
        check_counts(other)
        between = self._many_a * other.many_b
        return Counts(self._many_a + other.many_a, self._many_b + other.many_b, self._pairs + other.pairs + between)

    def __mul__(self, other):
        """Return the counts of so many equal rows with these counts, one behind the other."""
        check_number(other, 0, MOST_COPIES)
        # Any two of the copies, the earlier one first, have many_a * many_b pairs between them.
        between = self._many_a * self._many_b * (other * (other - 1) // 2)
        return Counts(self._many_a * other, self._many_b * other, self._pairs * other + between)

    def __invert__(self):
        """Return the counts of the reversed row."""
        return Counts(self._many_a, self._many_b, self._many_a * self._many_b - self._pairs)

    def __neg__(self):
        """Return the counts of the row with all letters exchanged."""
        return Counts(self._many_b, self._many_a, self._many_a * self._many_b - self._pairs)

    def __contains__(self, x):
        """Return whether any value is a row with these counts."""
        return is_row(x) and Counts.of(x) == self

    def __eq__(self, other):
        """Return whether any value is a Counts object with the same three numbers."""
        return (isinstance(other, Counts) and self._many_a == other.many_a
                and self._many_b == other.many_b and self._pairs == other.pairs)

    def least_runs(self):
        """Return the runs of the least row with these counts."""
        # An a at the front makes many_b pairs, so as many as the pairs allow stand there.
        # One more a makes the pairs that are left, ahead of so many of the b.
        if self._many_b == 0:
            front, left = self._many_a, 0
        else:
            front, left = divmod(self._pairs, self._many_b)
        behind = self._many_a - front
        if left == 0:
            runs = [("a", front), ("b", self._many_b), ("a", behind)]
        else:
            runs = [("a", front), ("b", self._many_b - left), ("a", 1), ("b", left), ("a", behind - 1)]
        return [(letter, number) for letter, number in runs if number > 0]

    def greatest_runs(self):
        """Return the runs of the greatest row with these counts."""
        # Exchanging all letters turns the order of rows of the same length around.
        return [(OTHER_LETTER[letter], number) for letter, number in (-self).least_runs()]


def check_counts(value):
    """Raise InvalidCounts unless the value is a Counts object."""
    if not isinstance(value, Counts):
        raise InvalidCounts("not a Counts object")


def letters_in(counts):
    """Return the number of letters of the rows with these counts."""
    return counts.many_a + counts.many_b
