"""Cases that meet the gaps of roads."""

from gaugeroad.errors import Nothing, TooMany
from gaugeroad.gaps import above, below
from gaugeroad.gauges import MOST_TICKS
from gaugeroad.lags import walk_of_span, walk_to_hole
from gaugeroad.peaks import peak_below
from gaugeroad.roads import above_gauge, below_gauge
from gaugeroad.rounds import ends_of
from gaugeroad.shafts import best_beginnings, worst_beginnings


class Case:
    """A window, looks, a history and beginnings: what a road told of it, and what was true."""

    def __init__(self, side, window, behind, looks, points, beginnings):
        self.side = side
        self.window = window
        self.behind = behind
        self.looks = looks
        self.points = points
        self.beginnings = beginnings

    def told(self):
        """All that it was made of."""
        return self.side, self.window, self.behind, self.looks, self.points, self.beginnings

    def __eq__(self, other):
        return isinstance(other, Case) and self.told() == other.told()


def case_above(road, length, behind=(0, 0)):
    """A case that meets the gap above of a length."""
    above(road, length, behind)
    check_length(length, behind)
    gauge = above_gauge(road)
    ticks = length + behind[0] - behind[1]
    tops = gauge.tops(ticks, behind[0])
    gaps = [gauge.gap_of(early, last) for early, last in tops]
    lag = gaps.index(max(gaps))
    early, last = tops[lag]
    amount = gauge.amount_of(early, last)
    lengths = walk_of_span(road.habit, gauge.walks, lag, gauge.spans(ticks)[lag])
    looks = (0, *ends_of(lengths))
    begin = lag + behind[0]
    # As much as can be comes ahead of the window, and nothing behind the look at which its end is read.
    points = points_of((begin, min(early, amount)), (looks[-2], amount))
    return Case("above", (begin, begin + length), behind, looks, points, best_beginnings(road.whole, amount))


def case_below(road, length, behind=(0, 0)):
    """A case that meets the gap below of a length."""
    below(road, length, behind)
    check_length(length, behind)
    gauge = below_gauge(road)
    late = road.pace.top_of(gauge.longest(length, behind[1]))
    left = road.pace.top_of(length) - late
    amount = peak_below(road.whole.least_growth, road.whole.worth, left)[1]
    looks = (0, *ends_of(walk_to_hole(road.habit, length + behind[0] - behind[1])))
    end = looks[-1] - 1 + behind[1]
    # Nothing comes ahead of the window, and as much as can be behind the look at which its end is read.
    points = points_of((end - length, 0), (looks[-2], amount), (end, amount + late))
    return Case("below", (end - length, end), behind, looks, points, worst_beginnings(road.whole, amount))


def check_length(length, behind):
    """Refuses windows of which no case is made."""
    if length + sum(behind) > MOST_TICKS:
        raise TooMany("ticks", MOST_TICKS)
    if length == 0:
        raise Nothing()


def points_of(*points):
    """The points of a history that has 0 at 0: those that lie behind the ones ahead of them."""
    found = [(0, 0)]
    for moment, amount in points:
        if moment > found[-1][0]:
            found.append((moment, amount))
    return tuple(found)
