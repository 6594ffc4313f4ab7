"""Rows that change, with undo."""

from paircounts.checks import check_number, check_size
from paircounts.counts import OTHER_LETTER, Counts
from paircounts.errors import NothingToUndo
from paircounts.rows import MOST_LETTERS, check_row
from paircounts.swaps import swapped


class LiveRow:
    """A row that changes."""

    def __init__(self, row):
        check_row(row)
        # The rows from the first one to the present one, which stands last: each change puts one more behind.
        self._rows = [row]

    @property
    def row(self):
        """The present row."""
        return self._rows[-1]

    @property
    def counts(self):
        """The Counts of the present row."""
        return Counts.of(self._rows[-1])

    @property
    def changes(self):
        """The number of changes that are not reverted."""
        return len(self._rows) - 1

    def __len__(self):
        """Return the number of letters."""
        return len(self._rows[-1])

    def __eq__(self, other):
        """Return whether any value is a live row with the same row."""
        return isinstance(other, LiveRow) and self.row == other.row

    def tried(self, *swaps):
        """Return the row to which these double swaps lead, one after the other; the row stays the same."""
        reached = self.row
        for swap in swaps:
            reached = swapped(reached, swap)
        return reached

    def apply(self, *swaps):
        """Make these double swaps, one after the other, as one change, and return the row afterwards."""
        reached = self.tried(*swaps)
        if swaps:
            self._rows.append(reached)
        return reached

    def put(self, letters):
        """Put a row behind the last letter."""
        check_row(letters)
        check_size(len(self.row) + len(letters), MOST_LETTERS)
        self._rows.append(self.row + letters)

    def cut(self, number):
        """Remove so many letters at the end, and return them."""
        check_number(number, 1, len(self.row))
        end = len(self.row) - number
        removed = self.row[end:]
        self._rows.append(self.row[:end])
        return removed

    def turn(self):
        """Reverse the row."""
        self._rows.append(self.row[::-1])

    def exchange(self):
        """Exchange all letters."""
        self._rows.append("".join([OTHER_LETTER[letter] for letter in self.row]))

    def undo(self):
        """Revert the last change that is not reverted."""
        if self.changes == 0:
            raise NothingToUndo("there is no change to revert")
        self._rows.pop()

    def twin(self):
        """Return an independent live row with the same row and the same changes to undo."""
        other = LiveRow(self.row)
        other._rows = list(self._rows)
        return other
