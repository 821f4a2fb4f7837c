"""Checks of numbers that more than one module makes."""

from pressworlds.errors import InvalidNumber


def is_integer(value):
    """Return whether a value is an integer; True and False are none."""
    return isinstance(value, int) and not isinstance(value, bool)


def check_number(value):
    """Raise InvalidNumber for what is no integer."""
    if not is_integer(value):
        raise InvalidNumber(value)


def check_degree(value):
    """Raise InvalidNumber for what is no integer from 1 on."""
    if not is_integer(value) or value < 1:
        raise InvalidNumber(value)
