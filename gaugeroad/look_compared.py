"""A look at what is told of two roads, or of two trains, without a search for it."""

from gaugeroad.compared import Narrow, OtherWindow, SameWindows, Wider, check_fine_trains, check_roads, first_wider
from gaugeroad.compared import leads_of, pairs_of_growths
from gaugeroad.errors import BadCase
from gaugeroad.kinds import is_whole, is_within
from gaugeroad.look_gaps import shows_at_most, weigh
from gaugeroad.papers import AtMost
from gaugeroad.shafts import are_beginnings, counts_from

FAR = 10 ** 30


def shows_never_wider(one, other, value):
    """Whether any value is a right answer to whether one is never wider than other."""
    check_roads(one, other)
    if isinstance(value, Narrow):
        pairs = pairs_of_growths(one, other)
        is_narrow = first_wider(leads_of(one, other, pairs)) is None
        return is_narrow and (value.above, value.below) == pairs
    if not isinstance(value, Wider) or not is_whole(value.length):
        return False
    gap = gap_of_case(one, value)
    if gap is None or not is_paper_of(value) or not shows_at_most(other, value.paper):
        return False
    return value.paper.number.less(gap)


def shows_alike_windows(one, other, value):
    """Whether any value is a right answer to whether two fine trains can let out the same numbers of counts."""
    check_fine_trains(one, other)
    if isinstance(value, SameWindows):
        growths = [(train.least_growth, train.most_growth) for train in (one, other)]
        return all([(value.lows, value.highs) == pair for pair in growths])
    if not isinstance(value, OtherWindow) or not is_within(value.amount, 0, FAR) or not is_whole(value.counts):
        return False
    return lets_alone(one, other, value) or lets_alone(other, one, value)


def gap_of_case(road, wider):
    """The gap of a case of a road, if it is one of the side and the length, nothing lying behind; else None."""
    try:
        told, truth = weigh(road, wider.case)
    except BadCase:
        return None
    case = wider.case
    if case.side != wider.side or case.behind != (0, 0) or case.window[1] - case.window[0] != wider.length:
        return None
    return told - truth if case.side == "above" else truth - told


def is_paper_of(wider):
    """Whether the paper is one of the side and the length, nothing lying behind."""
    paper = wider.paper
    if not isinstance(paper, AtMost):
        return False
    return (paper.side, paper.length, paper.behind) == (wider.side, wider.length, (0, 0))


def lets_alone(train, other, window):
    """Whether a train lets out just so many counts with these beginnings, and the other one never does."""
    if not are_beginnings(train, window.beginnings):
        return False
    if counts_from(train, window.beginnings, window.amount) != window.counts:
        return False
    # Between its fewest and its most a fine train can let out each number.
    return not other.fewest_of(window.amount) <= window.counts <= other.most_of(window.amount)
