"""Wide rows: rows of the letters a to h, of which neighbouring ones are counted in pairs."""

from paircounts.counts import Counts
from paircounts.errors import InvalidRow, InvalidStrands
from paircounts.patterns import ANY_LETTER, Fillings
from paircounts.rows import pairs_in
from paircounts.swaps import fewest_swaps

LETTERS = "abcdefgh"
# The letters of each strand: the neighbours in the alphabet.
NEIGHBOURS = ("ab", "bc", "cd", "de", "ef", "fg", "gh")
MOST_WIDE = 60


def _is_made_of(value, letters):
    """Return whether any value is a string of some of these letters."""
    return isinstance(value, str) and all([letter in letters for letter in value])


def is_wide_row(value):
    """Return whether any value is a wide row."""
    return _is_made_of(value, LETTERS) and len(value) <= MOST_WIDE


def _check_wide_row(value):
    if not is_wide_row(value):
        raise InvalidRow(f"not a row of 0 to {MOST_WIDE} letters from a to h")


def strands_of(row):
    """Return the strands of a wide row."""
    _check_wide_row(row)
    return ["".join([letter for letter in row if letter in letters]) for letters in NEIGHBOURS]


def _with_a_and_b(strand, letters):
    """Return a strand with a for the first one of its two letters, and b for the other one."""
    return "".join(["a" if letter == letters[0] else "b" for letter in strand])


def _rows_in(row):
    """Return the strands of a wide row as rows of letters a and b."""
    return [_with_a_and_b(strand, letters) for strand, letters in zip(strands_of(row), NEIGHBOURS)]


def wide_counts(row):
    """Return the wide counts: the numbers of the letters a to h, and the pairs of each strand."""
    _check_wide_row(row)
    return ([row.count(letter) for letter in LETTERS], [pairs_in(strand) for strand in _rows_in(row)])


def _letters_in_all(strands):
    """Return the number of letters of the wide rows with these strands."""
    # Each letter but the a is the second letter of one strand.
    numbers = [strand.count(letters[1]) for strand, letters in zip(strands, NEIGHBOURS)]
    return strands[0].count("a") + sum(numbers)


def are_strands(value):
    """Return whether any value is the strands of some wide row."""
    if type(value) is not list or len(value) != len(NEIGHBOURS):
        return False
    if not all([_is_made_of(strand, letters) for strand, letters in zip(value, NEIGHBOURS)]):
        return False
    # Strands that have the letter between them equally often can always be laid into one row, from left to right.
    shared = [(letters[1], strand, after) for letters, strand, after in zip(NEIGHBOURS, value, value[1:])]
    if not all([strand.count(letter) == after.count(letter) for letter, strand, after in shared]):
        return False
    return _letters_in_all(value) <= MOST_WIDE


def _can_come_next(letter, strands):
    """Return whether each strand with this letter begins with it."""
    return all([strand.startswith(letter) for strand, letters in zip(strands, NEIGHBOURS) if letter in letters])


def _without_first(letter, strands):
    """Return the strands without the first letter of those that have this letter."""
    return [strand[1:] if letter in letters else strand for strand, letters in zip(strands, NEIGHBOURS)]


def least_row(strands):
    """Return the least wide row with these strands."""
    if not are_strands(strands):
        raise InvalidStrands("not the strands of a wide row")
    left, found = strands, []
    for _ in range(_letters_in_all(strands)):
        # What is left are again the strands of some row, whichever letter is taken, so the least one is right.
        least = min([letter for letter in LETTERS if _can_come_next(letter, left)])
        found.append(least)
        left = _without_first(least, left)
    return "".join(found)


def _numbered(row):
    """Return the letters of a wide row, each with how many equal ones stand ahead of it."""
    return [(letter, row[:place].count(letter)) for place, letter in enumerate(row)]


def fewest_free(row, other):
    """Return the fewest free swaps from a wide row to another one, None if their strands are different."""
    if strands_of(row) != strands_of(other):
        return None
    # Free swaps keep equal letters in their sequence. One of them turns two letters around, and as long as some two
    # letters are not in the sequence of the other row, there are such two side by side, which a free swap turns.
    targets = {letter: place for place, letter in enumerate(_numbered(other))}
    places = [targets[letter] for letter in _numbered(row)]
    return len([place for end, place in enumerate(places) for ahead in places[:end] if ahead > place])


def fewest_strand(row, other):
    """Return the fewest strand swaps from a wide row to another one, None if their wide counts are different."""
    if wide_counts(row) != wide_counts(other):
        return None
    return sum([fewest_swaps(strand, after) for strand, after in zip(_rows_in(row), _rows_in(other))])


def count_classes(row):
    """Return how many different strands the wide rows with the wide counts of this one have."""
    # A strand can be exchanged for any other one with the same counts, whatever the other strands are.
    many = 1
    for strand in _rows_in(row):
        many = many * Fillings(ANY_LETTER * len(strand), Counts.of(strand)).many
    return many
