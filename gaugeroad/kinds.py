"""Of what kind a value is, and whether a number lies within its bounds."""

from gaugeroad.errors import BadNumber


def is_whole(value):
    """Whether any value is an integer."""
    # To Python a bool is an int; here it is none.
    return isinstance(value, int) and not isinstance(value, bool)


def is_within(value, low, high):
    """Whether any value is an integer from low to high."""
    return is_whole(value) and low <= value <= high


def check_number(value, low, high):
    """Refuses any value that is no integer from low to high."""
    if not is_within(value, low, high):
        raise BadNumber(value)
