"""Checks of integers and sizes that several files need."""

from paircounts.errors import InvalidNumber, TooLarge


def is_integer(value):
    """Return whether any value is an integer; True and False are not."""
    return isinstance(value, int) and not isinstance(value, bool)


def check_number(value, least, greatest=None):
    """Raise InvalidNumber unless the value is an integer from least on, up to greatest if there is one."""
    # The message shows no number: Python refuses to write those of some thousand digits.
    if not is_integer(value) or value < least or (greatest is not None and value > greatest):
        raise InvalidNumber("not an integer, or not one that is allowed here")


def check_size(size, limit):
    """Raise TooLarge if a number of letters or runs is greater than the limit."""
    if size > limit:
        raise TooLarge(limit)
