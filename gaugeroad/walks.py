"""How far behind one another the looks of a habit can lie."""


class Walks:
    """All distances of looks up to some ticks, each as a bit at its place."""

    def __init__(self, habit, last):
        self.sums = sums_of(habit.states, last)
        self.firsts = firsts_of(habit, self.sums)

    def farthest(self, state, ticks):
        """How far behind a look in a state the last look up to so many ticks later can lie, at most."""
        return last_bit(self.sums[state], ticks)

    def span_of(self, lag, length):
        """How many ticks can lie between the looks ahead of a moment of this lag and of one so much later."""
        return max(0, last_bit(self.firsts[lag], lag + length))

    def can_lie(self, state, ticks):
        """Whether some look can lie just so far behind one in a state."""
        return (self.sums[state] >> ticks) & 1 == 1


def last_bit(bits, last):
    """The last place up to a given one at which a bit is, -1 if there is none."""
    return (bits & ((2 << last) - 1)).bit_length() - 1


def sums_of(states, last):
    """For each state, as bits, how far behind a look in it another look can lie, up to last."""
    ways = [lengths_by_state(state) for state in states]
    sums = [1 for _ in states]
    # The bit at j tells of the distance that is j less than the last one that is settled.
    recent = [1 for _ in states]
    for ticks in range(1, last + 1):
        found = [can_reach(way, recent) for way in ways]
        recent = [(bits << 1) | bit for bits, bit in zip(recent, found)]
        sums = [bits | (bit << ticks) for bits, bit in zip(sums, found)]
    return sums


def lengths_by_state(state):
    """For each state to which a state leads, the lengths less 1 as bits."""
    lengths = {}
    for length, after in state:
        lengths[after] = lengths.get(after, 0) | (1 << (length - 1))
    return [(lengths[after], after) for after in lengths]


def can_reach(way, recent):
    """1 if some edge leads on to what can be reached from behind it, otherwise 0."""
    for lengths, after in way:
        if lengths & recent[after]:
            return 1
    return 0


def firsts_of(habit, sums):
    """For each lag, as bits, how far behind a look a later look can lie, if no look comes within the lag."""
    by_length = [0 for _ in range(habit.hole + 1)]
    for state in habit.states:
        for length, after in state:
            by_length[length] = by_length[length] | (sums[after] << length)
    firsts = []
    bits = 0
    for length in range(habit.hole, 0, -1):
        bits = bits | by_length[length]
        firsts.append(bits)
    return firsts[::-1]
