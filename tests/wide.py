"""Wide rows as the document defines them, place by place, and searches over what swaps lead to."""

from tests.values import NO_ROWS

LETTERS = "abcdefgh"
NEIGHBOURS = ["ab", "bc", "cd", "de", "ef", "fg", "gh"]

NO_WIDE_ROWS = [
    *[value for value in NO_ROWS if not isinstance(value, str)],
    "i", "A", "H", "abi", "`", "abcdefghi", "z", " ", "a b", " ab", "ab ", "ab\n", "\n", "a?", "0", "ab-", "a" * 61,
    "h" * 61, "abcdefgh" * 7 + "abcde", "abcdefgh" * 500, "a" * 59 + "i", "i" + "h" * 59,
]


def rows_with_letters_of(row):
    """Return all rows with the same letters, in ascending order."""
    if row == "":
        return [""]
    found = []
    for letter in sorted(set(row)):
        found.extend([letter + rest for rest in rows_with_letters_of(row.replace(letter, "", 1))])
    return found


def true_strands(row):
    """Return the strands, letter by letter."""
    return ["".join(letter for letter in row if letter in (one, other)) for one, other in NEIGHBOURS]


def true_counts(row):
    """Return the wide counts, pair of places by pair of places."""
    places = range(len(row))
    pairs = [
        sum(1 for one in places for two in places if one < two and row[one] + row[two] == letters)
        for letters in NEIGHBOURS
    ]
    return ([row.count(letter) for letter in LETTERS], pairs)


def is_free(one, other):
    """Return whether two letters are different and no neighbours in the alphabet."""
    return abs(LETTERS.index(one) - LETTERS.index(other)) >= 2


def turned_around(row, place):
    """Return the row with the letters at a place and the next one exchanged."""
    return row[:place] + row[place + 1] + row[place] + row[place + 2:]


def after_free_swaps(row):
    """Return the rows after each free swap."""
    places = [place for place in range(len(row) - 1) if is_free(row[place], row[place + 1])]
    return [turned_around(row, place) for place in places]


def after_strand_swaps(row):
    """Return the rows after each strand swap."""
    places, found = range(len(row) - 1), []
    for one in places:
        for two in places:
            letters, others = row[one:one + 2], row[two:two + 2]
            if letters in NEIGHBOURS and others == letters[::-1] and abs(one - two) >= 2:
                found.append(turned_around(turned_around(row, one), two))
    return found


def free_distances(row):
    """Return how many free swaps lead from a row to each row that they lead to."""
    found, newest = {row: 0}, [row]
    while newest:
        reached = {after: found[one] + 1 for one in newest for after in after_free_swaps(one)}
        newest = [after for after in reached if after not in found]
        found.update({after: reached[after] for after in newest})
    return found


def strand_distances(row):
    """Return how many strand swaps, beside any number of free swaps, lead from a row to each one that is reached."""
    found, level, steps = {}, list(free_distances(row)), 0
    while level:
        found.update(dict.fromkeys(level, steps))
        reached = {after for one in level for after in after_strand_swaps(one)} - set(found)
        level, steps = sorted({after for one in reached for after in free_distances(one)}), steps + 1
    return found


def free_swaps_made(row, other):
    """Return how many free swaps lead to another row if each letter in turn goes to its place; None if one is stuck."""
    letters, made = row, 0
    for place, letter in enumerate(other):
        at = letters.find(letter, place)
        for left in range(at - 1, place - 1, -1):
            if not is_free(letters[left], letters[left + 1]):
                return None
            letters, made = turned_around(letters, left), made + 1
    return made


def prefix_differences(row, other):
    """Return the sum of the differences of the prefix counts of two strands of the same length."""
    letter = min(row, default="a")
    return sum(abs(row[:end].count(letter) - other[:end].count(letter)) for end in range(len(row)))


def is_least(row):
    """Return whether no letter can go by free swaps ahead of a greater one and all letters between them."""
    for end, letter in enumerate(row):
        for start in range(end - 1, -1, -1):
            if not is_free(row[start], letter):
                break
            if letter < row[start]:
                return False
    return True


def stirred(row, source, steps):
    """Return the row after so many free swaps at places that a source of random numbers gives."""
    for _ in range(steps):
        place = source.randrange(len(row) - 1)
        if is_free(row[place], row[place + 1]):
            row = turned_around(row, place)
    return row


def random_row(source, letters, length):
    return "".join(source.choice(letters) for _ in range(length))
