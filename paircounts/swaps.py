"""Double swaps, and the ways that they lead from a row to another one."""

from paircounts.checks import check_size, is_integer
from paircounts.counts import Counts
from paircounts.errors import Different, InvalidSwap
from paircounts.rows import MOST_COUNTED, check_row, prefix_counts


def _places_of(row, letters):
    """Return the places at which a row has these two letters, one behind the other."""
    return [place for place in range(len(row) - 1) if row[place:place + 2] == letters]


def _has_at(row, letters, place):
    return 0 <= place < len(row) - 1 and row[place:place + 2] == letters


def _is_apart(first, second):
    return abs(first - second) >= 2


def is_swap(row, value):
    """Return whether any value is a double swap of a row."""
    check_row(row)
    if type(value) is not tuple or len(value) != 2:
        return False
    first, second = value
    if not (is_integer(first) and is_integer(second)):
        return False
    return _has_at(row, "ab", first) and _has_at(row, "ba", second) and _is_apart(first, second)


def swapped(row, swap):
    """Return the row after a double swap."""
    if not is_swap(row, swap):
        raise InvalidSwap("not a double swap of the row")
    letters = list(row)
    for place in swap:
        letters[place], letters[place + 1] = letters[place + 1], letters[place]
    return "".join(letters)


def swaps_of(row):
    """Return the ascending list of all double swaps of a row."""
    check_row(row)
    seconds = _places_of(row, "ba")
    return [(first, second) for first in _places_of(row, "ab") for second in seconds if _is_apart(first, second)]


def _prefix_bounds(row, other):
    """Return, for each prefix of two rows of the same length, the lesser and the greater prefix count."""
    return [(min(one, two), max(one, two)) for one, two in zip(prefix_counts(row), prefix_counts(other))]


def fewest_swaps(row, other):
    """Return the fewest double swaps from a row to another one, None if their counts are different."""
    if Counts.of(row) != Counts.of(other):
        return None
    return sum([high - low for low, high in _prefix_bounds(row, other)]) // 2


def _places_of_b(row):
    return [place for place, letter in enumerate(row) if letter == "b"]


def way_between(row, other):
    """Return a way from a row to another one, None if there is none."""
    if Counts.of(row) != Counts.of(other):
        return None
    moves = list(zip(_places_of_b(row), _places_of_b(other)))
    # Each b goes straight to its new place. Those that go to the left start with the first one and those
    # that go to the right with the last one, so none meets another one. As the pairs stay the same, there
    # are as many steps to the left as to the right, and a step of each kind together is a double swap.
    to_left = [place for start, end in moves for place in range(start - 1, end - 1, -1)]
    to_right = [place for start, end in reversed(moves) for place in range(start, end)]
    return list(zip(to_left, to_right))


def is_way(row, other, value):
    """Return whether any value is a way from a row to another one."""
    fewest = fewest_swaps(row, other)
    if fewest is None or type(value) is not list or len(value) != fewest:
        return False
    reached = row
    for swap in value:
        if not is_swap(reached, swap):
            return False
        reached = swapped(reached, swap)
    return reached == other


def is_between(row, other, middle):
    """Return whether a middle row lies between two rows with the same counts."""
    counts, other_counts, middle_counts = Counts.of(row), Counts.of(other), Counts.of(middle)
    if counts != other_counts:
        raise Different("the two rows have different counts")
    if counts != middle_counts:
        return False
    bounds = _prefix_bounds(row, other)
    return all([low <= many_a <= high for many_a, (low, high) in zip(prefix_counts(middle), bounds)])


def _one_letter_more(found, low, high):
    """Put an a and a b behind all prefixes and keep those with low to high letters a.

    Both dicts give, for a number of a and a number of pairs, how many prefixes have them.
    """
    longer = {}
    for (many_a, pairs), number in found.items():
        for key in [(many_a + 1, pairs), (many_a, pairs + many_a)]:
            if low <= key[0] <= high:
                longer[key] = longer.get(key, 0) + number
    return longer


def count_between(row, other):
    """Return the number of rows that lie between two rows with the same counts."""
    counts = Counts.of(row)
    if counts != Counts.of(other):
        raise Different("the two rows have different counts")
    check_size(len(row), MOST_COUNTED)
    found = {(0, 0): 1}
    for low, high in _prefix_bounds(row, other)[1:]:
        found = _one_letter_more(found, low, high)
    return found[(counts.many_a, counts.pairs)]
