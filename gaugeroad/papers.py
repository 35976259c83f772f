"""Papers that no gap of a road passes a number."""

from gaugeroad.errors import TooMany
from gaugeroad.gaps import above, below, check_exact, check_side, plain_above, plain_below
from gaugeroad.gauges import MOST_TICKS
from gaugeroad.roads import above_gauge, below_gauge, check_road


class AtMost:
    """No gap of a side of this length passes a number: these covers of the pace show it."""

    def __init__(self, side, length, behind, number, covers):
        self.side = side
        self.length = length
        self.behind = behind
        self.number = number
        self.covers = covers

    def told(self):
        """All that it was made of."""
        return self.side, self.length, self.behind, self.number, self.covers

    def __eq__(self, other):
        return isinstance(other, AtMost) and self.told() == other.told()


class Always:
    """No gap of a side passes a number at any length: this cover of the pace shows it."""

    def __init__(self, side, number, cover):
        self.side = side
        self.number = number
        self.cover = cover

    def told(self):
        """All that it was made of."""
        return self.side, self.number, self.cover

    def __eq__(self, other):
        return isinstance(other, Always) and self.told() == other.told()


def paper_at_most(road, side, length, behind=(0, 0)):
    """The paper of the gap of a side and a length."""
    check_road(road)
    check_side(side)
    number = above(road, length, behind) if side == "above" else below(road, length, behind)
    if length + sum(behind) > MOST_TICKS:
        raise TooMany("ticks", MOST_TICKS)
    if side == "above":
        covers = covers_above(road, length + behind[0] - behind[1], behind[0])
    else:
        late = below_gauge(road).longest(length, behind[1])
        covers = (road.pace.covering(late), road.pace.covering(length))
    return AtMost(side, length, behind, number, covers)


def paper_always(road, side):
    """The paper of the plain gap of a side."""
    check_road(road)
    check_side(side)
    cover = road.pace.covering(road.habit.hole - 1)
    if side == "above":
        return Always(side, plain_above(road), cover)
    check_exact(road)
    return Always(side, plain_below(road), cover)


def covers_above(road, ticks, lag):
    """For each lag, covers of the ticks up to a and of those between the looks."""
    spans = above_gauge(road).spans(ticks)
    early = [road.pace.covering(first + lag) for first in range(road.habit.hole)]
    # Many lags have one span.
    found = {span: road.pace.covering(span) for span in spans}
    return tuple([(cover, found[span]) for cover, span in zip(early, spans)])
