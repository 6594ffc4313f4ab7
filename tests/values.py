"""Values and checks that several tests need."""

from itertools import product

from paircounts.counts import Counts

MANY = 10 ** 30


class AnyValueEqual:
    """An object that says of each value that it is equal."""

    def __eq__(self, other):
        return True


NO_INTEGERS = [None, True, False, "", "1", "ab", b"1", [], [1], (), (1,), {}, {1: 1}, {1}, Counts(1, 1, 1), object()]

NO_COUNTS = [
    *[value for value in NO_INTEGERS if not isinstance(value, Counts)],
    0, 1, -1, MANY, (2, 2, 2), [2, 2, 2], "abba", Counts, [Counts(1, 1, 1)],
]

NO_ROWS = [
    None, True, False, 0, 1, -1, MANY, b"", b"ab", [], ["a", "b"], (), ("a", "b"), {}, {"a": 1}, {"a"},
    Counts(1, 1, 1), object(), "abc", "A", "aB", " ", "a b", " ab", "ab ", "ab\n", "\n", "a?b", "0", "a" * 201,
    "b" * 201, "ab" * 100 + "a", "ab" * 2000, "a" * 199 + "c", "c" + "b" * 199,
]


def all_rows(length):
    """Return all rows with so many letters, in ascending order."""
    return ["".join(letters) for letters in product("ab", repeat=length)]


def count_pairs(row):
    """Return the number of pairs as the document defines it, place by place."""
    places = range(len(row))
    return sum(1 for one in places for two in places if one < two and row[one] == "a" and row[two] == "b")


def rows_by_counts(length):
    """Return a dict that gives, for the three numbers of counts, all rows with these counts and this length."""
    found = {}
    for row in all_rows(length):
        found.setdefault((row.count("a"), row.count("b"), count_pairs(row)), []).append(row)
    return found


def numbers_of(counts):
    return (counts.many_a, counts.many_b, counts.pairs)


def text_of(runs):
    """Return the letters for which runs stand."""
    return "".join([letter * number for letter, number in runs])


def gaussian(many_a, many_b):
    """Return the coefficients of the Gaussian polynomial, worked out by the rule of the document."""
    found = {}
    for a in range(many_a + 1):
        for b in range(many_b + 1):
            if a == 0 or b == 0:
                found[a, b] = [1]
            else:
                one, other = [0] * b + found[a - 1, b], found[a, b - 1] + [0] * a
                found[a, b] = [x + y for x, y in zip(one, other)]
    return found[many_a, many_b]


def exchanged(row):
    """Return the row with all letters exchanged."""
    return "".join(["b" if letter == "a" else "a" for letter in row])


class Raising:
    """Checks of errors, for a unittest.TestCase."""

    def check_raises(self, error, call, *arguments):
        """Check that the call raises an error of exactly this class, and return the error."""
        with self.assertRaises(error, msg=repr(arguments)[:200]) as caught:
            call(*arguments)
        self.assertIs(type(caught.exception), error)
        return caught.exception
