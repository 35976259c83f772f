"""A look at what is told of the lags of a habit, without a search for it."""

from gaugeroad.habits import check_habit
from gaugeroad.kinds import are_counts, check_number
from gaugeroad.lags import MOST_TICKS, Reach

MOST_SPAN = 10 ** 6


def shows_reach(habit, ticks, value):
    """Whether any value is a Reach up to so many ticks that no walk passes."""
    check_habit(habit)
    check_number(ticks, 0, MOST_TICKS)
    if not isinstance(value, Reach) or not isinstance(value.rows, tuple) or len(value.rows) != len(habit.states):
        return False
    if not all([are_counts(row, ticks + 1) for row in value.rows]):
        return False
    return all([keeps_edges(row, edges, value.rows) for row, edges in zip(value.rows, habit.states)])


def keeps_edges(row, edges, rows):
    """Whether no edge leads from a state farther than its row tells."""
    for length, after in edges:
        if any([row[r] < length + rows[after][r - length] for r in range(length, len(row))]):
            return False
    return True


def shows_span(habit, lag, length, span, value):
    """Whether any value is a row of lengths that shows a span of a lag."""
    check_habit(habit)
    check_number(lag, 0, habit.hole - 1)
    check_number(length, 0, MOST_TICKS)
    check_number(span, 0, MOST_SPAN)
    if value not in habit or value == ():
        return False
    between = sum(value) - value[-1]
    return value[0] > lag and between == span and span <= lag + length < sum(value)
