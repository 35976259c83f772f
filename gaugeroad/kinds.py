"""Of what kind a value is, and whether a number lies within its bounds."""

from gaugeroad.errors import BadNumber


def is_whole(value):
    """Whether any value is an integer."""
    # To Python a bool is an int; here it is none.
    return isinstance(value, int) and not isinstance(value, bool)


def is_within(value, low, high):
    """Whether any value is an integer from low to high."""
    return is_whole(value) and low <= value <= high


def is_pair_within(value, low, high):
    """Whether any value is a pair of integers from low to high."""
    if not isinstance(value, tuple) or len(value) != 2:
        return False
    return is_within(value[0], low, high) and is_within(value[1], low, high)


def are_counts(value, many):
    """Whether any value is a tuple of so many integers from 0 on."""
    if not isinstance(value, tuple) or len(value) != many:
        return False
    return all([is_whole(count) and count >= 0 for count in value])


def are_within(value, many, high):
    """Whether any value is a tuple of so many integers from 0 to high."""
    return are_counts(value, many) and max([0, *value]) <= high


def check_number(value, low, high):
    """Refuses any value that is no integer from low to high."""
    if not is_within(value, low, high):
        raise BadNumber(value)
