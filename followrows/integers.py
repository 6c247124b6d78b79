"""Integers: what counts as one, and the ranges that are asked of them."""

from followrows.errors import InvalidNumber


def is_integer(thing):
    """Return whether an object is an integer: an int that is not a bool."""
    return isinstance(thing, int) and not isinstance(thing, bool)


def is_between(low, high, thing):
    """Return whether an object is an integer from low to high."""
    return is_integer(thing) and low <= thing <= high


def check_from_one(thing):
    """Raise InvalidNumber if an object is no integer from 1 on."""
    if not is_integer(thing) or thing < 1:
        raise InvalidNumber("this is no integer from 1 on")


def check_between(low, high, thing):
    """Raise InvalidNumber if an object is no integer from low to high."""
    if not is_between(low, high, thing):
        raise InvalidNumber("this is no integer in the range that is asked")
