"""Checks of integers that several files need."""

from paircounts.errors import InvalidNumber


def is_integer(value):
    """Return whether any value is an integer; True and False are not."""
    return isinstance(value, int) and not isinstance(value, bool)


def check_number(value, least, greatest):
    """Raise InvalidNumber unless the value is an integer in this range."""
    if not is_integer(value) or not least <= value <= greatest:
        raise InvalidNumber(f"not an integer from {least} to {greatest}")
