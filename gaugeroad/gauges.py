"""What the gaps of a road are reckoned from, all times the road's scale."""

from gaugeroad.errors import TooMany
from gaugeroad.heights import Heights, highest_growth
from gaugeroad.peaks import peak_above
from gaugeroad.walks import Walks

MOST_TICKS = 600


class AboveGauge:
    """How far above the truth a road can tell."""

    def __init__(self, whole, pace, habit):
        worth = whole.worth
        most = whole.most_growth
        self.pace = pace
        self.habit = habit
        self.hole = habit.hole
        self.unit = worth
        self.growth = most
        self.rounds = len(most.gains)
        # No part has a head of its own: from 0 on the most counts gain as in each later round.
        self.heights = Heights([worth.up * most.value_at(d) - worth.down * d for d in range(self.rounds)])
        self.reached = 0
        self.walks = None

    def is_plain(self, ticks, lag):
        """Whether moments so many ticks apart surely have the plain gap, a lying so far behind."""
        return self.pace.top_of(ticks) >= self.pace.top_of(self.hole - 1 + lag) + self.rounds - 1

    def plain(self, lag):
        """The plain gap, a lying so far behind."""
        return self.plain_of(self.pace.top_of(self.hole - 1 + lag))

    def plain_of(self, early):
        """The plain gap if so much can come up to a."""
        return self.unit.down * early + self.heights.greatest(0, self.rounds - 1)

    def gap(self, ticks, lag):
        """The gap, if a and b are read at moments so many ticks apart, and a lies so far behind."""
        if ticks <= 0:
            return 0
        if self.is_plain(ticks, lag):
            return self.plain(lag)
        self.check(ticks, lag)
        return max([self.gap_of(early, last) for early, last in self.tops(ticks, lag)])

    def check(self, ticks, lag):
        """Refuses more ticks than are gone through, unless the gap is the plain one."""
        if ticks > MOST_TICKS and not self.is_plain(ticks, lag):
            raise TooMany("ticks", MOST_TICKS)

    def spans(self, ticks):
        """For each lag, the most ticks between the looks at which such moments are read."""
        if ticks > self.reached:
            # Longer ways than are asked for serve the next questions, too.
            self.reached = min(MOST_TICKS, 2 * ticks)
            self.walks = Walks(self.habit, self.hole - 1 + self.reached)
        return [self.walks.span_of(lag, ticks) for lag in range(self.hole)] if ticks > 0 else [0] * self.hole

    def tops(self, ticks, lag):
        """For each lag ahead of where a is read, the most that comes up to a, and between the looks."""
        return [(self.pace.top_of(first + lag), self.pace.top_of(span)) for first, span in enumerate(self.spans(ticks))]

    def gap_of(self, early, last):
        """The gap if so much can come up to a, and so much between the looks."""
        if last < early:
            return self.unit.up * self.growth.value_at(last)
        return self.unit.down * early + self.heights.greatest(early, last)

    def amount_of(self, early, last):
        """What comes between the looks where this gap is met."""
        return last if last < early else peak_above(self.growth, self.unit, early, last)[1]


class BelowGauge:
    """How far below the truth a road can tell."""

    def __init__(self, whole, pace, habit):
        worth = whole.worth
        least = whole.least_growth
        many = len(least.gains)
        self.pace = pace
        self.hole = habit.hole
        self.scale = worth.down
        row = [worth.down * d - worth.up * least.value_at(d) for d in range(many)]
        self.highest = highest_growth(row, worth.down * many - worth.up * sum(least.gains))

    def longest(self, length, lag):
        """The most ticks of a window behind the look at which b is read, b lying so far behind."""
        return min(length, self.hole - 1 + lag)

    def gap(self, length, lag):
        """The gap of windows of a length, b lying so far behind."""
        return self.gap_of(self.pace.top_of(self.longest(length, lag)), self.pace.top_of(length))

    def gap_of(self, late, whole):
        """The gap if so much can come behind the look at which b is read, and so much in the window."""
        if whole < late:
            return self.scale * whole
        return self.scale * late + self.highest.value_at(whole - late)

    def plain(self, lag):
        """The plain gap of an exact train, b lying so far behind."""
        return self.plain_of(self.pace.top_of(self.hole - 1 + lag))

    def plain_of(self, late):
        """The plain gap of an exact train if so much can come behind the look at which b is read."""
        return self.scale * late + self.highest.head[-1]


class Gauges:
    """Both gauges of a road, each made when it is first asked for: a road is asked for many lengths."""

    def __init__(self, whole, pace, habit):
        self.parts = (whole, pace, habit)
        self._above = None
        self._below = None

    def of_above(self):
        """The gauge of the gaps above."""
        if self._above is None:
            whole, pace, habit = self.parts
            self._above = AboveGauge(whole, pace, habit)
        return self._above

    def of_below(self):
        """The gauge of the gaps below."""
        if self._below is None:
            whole, pace, habit = self.parts
            self._below = BelowGauge(whole, pace, habit)
        return self._below
