"""The errors of the package; each one derives directly from PairError."""


class PairError(ValueError):
    """Any error that the package raises."""


class InvalidRow(PairError):
    """A value is not a row."""


class InvalidCounts(PairError):
    """Values are not counts."""


class InvalidRuns(PairError):
    """A value is not runs."""


class InvalidSwap(PairError):
    """A value is not a double swap."""


class InvalidPattern(PairError):
    """A value is not a pattern."""


class InvalidNumber(PairError):
    """A value is not an integer, or not one that is allowed."""


class InvalidStrands(PairError):
    """A value is not the strands of a wide row."""


class InvalidCommand(PairError):
    """A value is not a command, or the command cannot be run now."""


class Different(PairError):
    """Two rows have different counts."""


class NothingToUndo(PairError):
    """There is no change to revert."""


class TooLarge(PairError):
    """There are more letters or runs than the limit."""

    def __init__(self, limit):
        super().__init__(f"more than {limit}")
        self.limit = limit


class InvalidText(PairError):
    """A value is not a text of the wanted kind; index tells where it fails."""

    def __init__(self, index):
        super().__init__(f"not such a text, index {index}")
        self.index = index
