"""A look at what is told of two trains, without a search for it."""

from gaugeroad.classes import Alike, Parted, check_both, cycles_of, found_at, is_word, rows_of_cycles
from gaugeroad.marks import Marks


def shows_alike(one, other, value):
    """Whether any value is a right answer to whether both trains are alike."""
    check_both(one, other)
    if isinstance(value, Alike):
        return are_rows(value.rows) and all([are_rows_of(train, value.rows) for train in (one, other)])
    if isinstance(value, Parted):
        return is_word(value.word) and can_say(one, value.word) != can_say(other, value.word)
    return False


def are_rows(rows):
    """Whether any value is a tuple of Marks."""
    return isinstance(rows, tuple) and all([isinstance(row, Marks) for row in rows])


def are_rows_of(train, rows):
    """Whether some rows of marks, in any order, are just those of a train."""
    # Those of a train are turned, and each is there once: so no other ones can be equal to them.
    told = sorted([(row.period, row.places) for row in rows])
    return told == [(row.period, row.places) for row in rows_of_cycles(cycles_of(train))]


def can_say(train, word):
    """Whether a train can let out a word."""
    return any([found_at(signs, word) >= 0 for _, signs in cycles_of(train)])
