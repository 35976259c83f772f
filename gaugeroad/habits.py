"""Habits: which rows of looks there can be."""

from gaugeroad.errors import BadHabit, NoState, TooMany
from gaugeroad.kinds import check_number, is_whole, is_within
from gaugeroad.words import Words

FAR = 10 ** 40
MOST_LENGTH = 200
MOST_STATES = 60
MOST_EDGES = 300
MOST_PERIOD = 60
MOST_LATE = 16
MOST_MISSING = 8
MOST_PIECES = 1000
LONGEST_PIECE = 6


class Habit:
    """States, each with edges: how far behind the next look can be, and in which state."""

    def __init__(self, *states):
        for at, state in enumerate(states):
            if not is_state(state, len(states)):
                raise BadHabit(at)
        if not states:
            raise BadHabit(0)
        if len(states) > MOST_STATES:
            raise TooMany("states", MOST_STATES)
        rows = tuple([edges_of(state) for state in states])
        if sum([len(row) for row in rows]) > MOST_EDGES:
            raise TooMany("edges", MOST_EDGES)
        reached = {after: True for row in rows for _, after in row}
        for at in range(len(rows)):
            if at not in reached:
                raise BadHabit(at)
        self.states = rows
        self.hole = longest_edge(rows)

    @classmethod
    def steady(cls, period):
        """A look each period."""
        check_number(period, 1, MOST_PERIOD)
        return Habit(((period, 0),))

    @classmethod
    def loose(cls, period, late):
        """A look in each period, up to so many ticks late."""
        check_number(period, 1, MOST_PERIOD)
        check_number(late, 0, min(period - 1, MOST_LATE))
        states = [[(period + after - at, after) for after in range(late + 1)] for at in range(late + 1)]
        return Habit(*states)

    @classmethod
    def missing(cls, period, most):
        """A look each period, of which so many in a row can be missing."""
        check_number(period, 1, MOST_PERIOD)
        check_number(most, 0, MOST_MISSING)
        if period * (most + 1) > MOST_LENGTH:
            raise TooMany("ticks", MOST_LENGTH)
        return Habit([(period * many, 0) for many in range(1, most + 2)])

    @classmethod
    def read(cls, text):
        """The habit with this text."""
        words = Words(text)
        states = take_states(words)
        return Habit(*states)

    def moves(self, state, *choices):
        """The lengths of a walk that takes these edges, and the state behind it."""
        check_state(self, state)
        for choice in choices:
            check_number(choice, 0, FAR)
        lengths = []
        for choice in choices:
            edges = self.states[state]
            length, state = edges[choice % len(edges)]
            lengths.append(length)
        return tuple(lengths), state

    def pieces(self, many):
        """All rows of so many lengths, ascending."""
        check_number(many, 0, LONGEST_PIECE)
        rows = all_pieces(self.states, many)
        for row in rows:
            yield row

    def __len__(self):
        return len(self.states)

    def __iter__(self):
        return iter(self.states)

    def __getitem__(self, at):
        check_state(self, at)
        return self.states[at]

    def __contains__(self, value):
        if not isinstance(value, tuple) or not all([is_whole(length) for length in value]):
            return False
        states = list(range(len(self.states)))
        for length in value:
            states = states_behind(self.states, states, length)
        return states != []

    def __or__(self, other):
        if not isinstance(other, Habit):
            raise BadHabit("other")
        many = len(self.states)
        moved = [[(length, after + many) for length, after in state] for state in other.states]
        return Habit(*self.states, *moved)

    def __eq__(self, other):
        return isinstance(other, Habit) and self.states == other.states

    def __str__(self):
        return " / ".join([" ".join([f"{length} {after}" for length, after in state]) for state in self.states])


def habit_of(states):
    """The habit with these states, however many edges they have."""
    habit = Habit.steady(1)
    habit.states = tuple([edges_of(state) for state in states])
    habit.hole = longest_edge(habit.states)
    return habit


def is_state(value, many):
    """Whether any value is a row of edges to some of so many states."""
    if not isinstance(value, (list, tuple)) or len(value) == 0:
        return False
    return all([is_edge(edge, many) for edge in value])


def is_edge(value, many):
    """Whether any value is a pair of a length and of the index of a state."""
    if not isinstance(value, (list, tuple)) or len(value) != 2:
        return False
    return is_within(value[0], 1, MOST_LENGTH) and is_within(value[1], 0, many - 1)


def edges_of(state):
    """The edges of a state, ascending, each once."""
    return tuple(sorted(set([tuple(edge) for edge in state])))


def longest_edge(states):
    """The greatest length of all edges."""
    return max([length for state in states for length, _ in state])


def check_habit(habit):
    """Refuses any value that is no habit."""
    if not isinstance(habit, Habit):
        raise BadHabit(None)


def check_state(habit, state):
    """Refuses any value that is no index of a state."""
    if not is_within(state, 0, len(habit.states) - 1):
        raise NoState(state)


def states_behind(rows, states, length):
    """The states to which edges of a length lead from some states."""
    return sorted(set([after for state in states for long, after in rows[state] if long == length]))


def all_pieces(states, many):
    """All rows of so many lengths of walks, ascending."""
    found = {(): list(range(len(states)))}
    for _ in range(many):
        found = longer_pieces(states, found)
    return sorted(found)


def longer_pieces(states, shorter):
    """The rows with one more length, each with the states behind it."""
    longer = {}
    for row, ends in shorter.items():
        for length in sorted(set([length for state in ends for length, _ in states[state]])):
            whole = (*row, length)
            longer[whole] = states_behind(states, ends, length)
        # Each row goes on, so there are never fewer rows of more lengths.
        if len(longer) > MOST_PIECES:
            raise TooMany("pieces", MOST_PIECES)
    return longer


def take_states(words):
    """The states that the words of a habit tell."""
    many = words.count_of("/") + 1
    states = [take_state(words, many, MOST_EDGES)]
    while not words.take_end_or("/", len(states) < MOST_STATES):
        left = MOST_EDGES - sum([len(state) for state in states])
        states.append(take_state(words, many, left))
    return states


def take_state(words, many, left):
    """The ascending edges up to the end of a state, at most so many as are left."""
    edges = []
    while not edges or not (words.is_done() or words.ahead() == "/"):
        if len(edges) == left:
            words.refuse()
        edges.append(take_edge(words, edges[-1] if edges else (1, -1), many))
    return edges


def take_edge(words, ahead, many):
    """The next edge, which is greater than the one ahead of it."""
    length = words.take_number(ahead[0], MOST_LENGTH)
    least = ahead[1] + 1 if length == ahead[0] else 0
    return length, words.take_number(least, many - 1)
