"""How far the looks of a habit can lie behind one another, and behind the moments of a window."""

from gaugeroad.habits import check_habit, check_state
from gaugeroad.kinds import check_number
from gaugeroad.walks import Walks

MOST_TICKS = 1000


class Reach:
    """For each state, and each number of ticks, how far behind a look the last look can lie."""

    def __init__(self, rows):
        self.rows = rows

    def __eq__(self, other):
        return isinstance(other, Reach) and self.rows == other.rows


def reach(habit, state, ticks):
    """How far behind a look the last look at most so many ticks later can lie, at most."""
    check_habit(habit)
    check_state(habit, state)
    check_number(ticks, 0, MOST_TICKS)
    return Walks(habit, ticks).farthest(state, ticks)


def beyond(habit, state, ticks):
    """How far behind a look the first look at least so many ticks later can lie, at most."""
    check_habit(habit)
    check_state(habit, state)
    check_number(ticks, 0, MOST_TICKS)
    return first_looks(habit, ticks)[state][ticks]


def first_looks(habit, ticks):
    """For each state, and each number of ticks, how far the first look so much later can lie, at most."""
    columns = [[0 for _ in habit.states]]
    for least in range(1, ticks + 1):
        found = []
        for state in habit.states:
            found.append(max([length if length >= least else length + columns[least - length][after]
                              for length, after in state]))
        columns.append(found)
    return tuple([tuple([column[state] for column in columns]) for state in range(len(habit.states))])


def spans(habit, length):
    """For each lag, the most ticks between the looks at which both ends of a window are read."""
    check_habit(habit)
    check_number(length, 0, MOST_TICKS)
    walks = Walks(habit, habit.hole - 1 + length)
    return tuple([walks.span_of(lag, length) for lag in range(habit.hole)])


def span_walk(habit, lag, length):
    """The lengths of a walk that shows the span of a lag."""
    check_habit(habit)
    check_number(lag, 0, habit.hole - 1)
    check_number(length, 0, MOST_TICKS)
    walks = Walks(habit, lag + length)
    return walk_of_span(habit, walks, lag, walks.span_of(lag, length))


def walk_of_span(habit, walks, lag, span):
    """The lengths of a walk whose first edge is above a lag, and whose looks lie so far apart."""
    if span == 0:
        return (habit.hole,)
    firsts = [edge for state in habit.states for edge in state if edge[0] > lag]
    row = [edge_towards(firsts, walks, span)]
    left = span - row[0][0]
    while left > 0:
        row.append(edge_towards(habit.states[row[-1][1]], walks, left))
        left = left - row[-1][0]
    # Whatever comes behind the last look of the span lies behind the window.
    row.append(habit.states[row[-1][1]][0])
    return tuple([length for length, _ in row])


def edge_towards(edges, walks, ticks):
    """An edge behind which some look can lie just so many ticks behind its begin."""
    fits = [edge for edge in edges if edge[0] <= ticks and walks.can_lie(edge[1], ticks - edge[0])]
    return fits[0]


def hole_walk(habit, length):
    """The lengths of a walk of a window that ends just ahead of the end of a longest hole."""
    check_habit(habit)
    check_number(length, 0, MOST_TICKS)
    return walk_to_hole(habit, length)


def walk_to_hole(habit, length):
    """The same for a length of any size."""
    row = [habit.hole]
    at = [state for state, edges in enumerate(habit.states) if edges[-1][0] == habit.hole][0]
    ahead = edges_ahead(habit)
    left = length - habit.hole + 1
    while left > 0:
        longest, at = ahead[at]
        row.append(longest)
        left = left - longest
    return tuple(row[::-1])


def edges_ahead(habit):
    """For each state an edge that leads to it: its length, and the state from which it leads."""
    found = {}
    for state, edges in enumerate(habit.states):
        for length, after in edges:
            found[after] = (length, state)
    return found


def reach_rows(habit, ticks):
    """The Reach up to so many ticks."""
    check_habit(habit)
    check_number(ticks, 0, MOST_TICKS)
    walks = Walks(habit, ticks)
    rows = [tuple([walks.farthest(state, r) for r in range(ticks + 1)]) for state in range(len(habit.states))]
    return Reach(tuple(rows))
