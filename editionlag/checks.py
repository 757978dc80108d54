"""Checks of arguments that hang on no schedule."""

from editionlag.errors import BadLag

MOST_LAG = 4


def is_integer(value):
    return isinstance(value, int) and not isinstance(value, bool)


def is_number(value, most):
    """Tells whether a value is an integer from 0 to most."""
    return is_integer(value) and 0 <= value <= most


def is_ascending(values, most):
    """Tells whether something is an ascending tuple of integers from 0 to most."""
    if not isinstance(values, tuple) or not all([is_number(value, most) for value in values]):
        return False
    return all([low < high for low, high in zip(values, values[1:])])


def check_lag(lag):
    if not is_number(lag, MOST_LAG):
        raise BadLag(f"a lag is an integer from 0 to {MOST_LAG}")
