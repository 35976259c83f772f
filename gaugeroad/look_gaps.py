"""A look at cases and papers of gaps, without a search for them."""

from gaugeroad.cases import Case
from gaugeroad.errors import BadBeginning, BadCase, BadHistory, TooMany
from gaugeroad.gaps import FAR, MOST_BEHIND, is_side
from gaugeroad.gauges import MOST_TICKS
from gaugeroad.histories import Through
from gaugeroad.kinds import are_within, is_pair_within, is_within
from gaugeroad.papers import Always, AtMost
from gaugeroad.ratios import Ratio
from gaugeroad.roads import above_gauge, below_gauge, check_road
from gaugeroad.shafts import Shaft, counts_from

FAR_WINDOW = 10 ** 29
FAR_LOOK = 10 ** 30
MOST_TIMES = 10 ** 30


def weigh(road, case):
    """What a road tells of the window of a case, and what is true of it."""
    check_road(road)
    check_window_of(case)
    if not are_looks(road.habit, case.looks, case.window[0] - case.behind[0], case.window[1] - case.behind[1]):
        raise BadCase("looks")
    history = history_of(road, case)
    check_beginnings(road, case)
    # The last look lies behind the window: the one ahead of it is the look at which b is read.
    amount = history.amount_at(case.looks[-2]) - history.amount_at(case.looks[0])
    told = road.whole.worth * counts_from(road.whole, case.beginnings, amount)
    return told, Ratio(history.amount_at(case.window[1]) - history.amount_at(case.window[0]))


def shows_case(road, case, number):
    """Whether any value is a case of a road with just this gap."""
    try:
        told, truth = weigh(road, case)
    except BadCase:
        return False
    gap = told - truth if case.side == "above" else truth - told
    return isinstance(number, Ratio) and gap == number


def shows_at_most(road, value):
    """Whether any value is a paper whose covers show that no gap passes its number."""
    check_road(road)
    if isinstance(value, Always):
        return is_always(road, value)
    return isinstance(value, AtMost) and is_at_most(road, value)


def check_window_of(case):
    """Refuses any value that is no case, and one whose side, window or distances behind are none."""
    if not isinstance(case, Case):
        raise BadCase("case")
    if not is_side(case.side):
        raise BadCase("side")
    if not is_pair_within(case.window, -FAR_WINDOW, FAR_WINDOW) or case.window[0] > case.window[1]:
        raise BadCase("window")
    if not are_behind(case.behind, case.window[1] - case.window[0]):
        raise BadCase("behind")


def are_behind(value, length):
    """Whether any value is a pair of distances behind that a window of a length can have."""
    return is_pair_within(value, 0, MOST_BEHIND) and value[1] <= length + value[0]


def are_looks(habit, looks, begin, end):
    """Whether any value is a row of looks of a habit around two moments, and no more of them."""
    if not isinstance(looks, tuple) or len(looks) < 2:
        return False
    if not all([is_within(moment, -FAR_LOOK, FAR_LOOK) for moment in looks]):
        return False
    lengths = tuple([after - moment for moment, after in zip(looks, looks[1:])])
    return lengths in habit and looks[0] <= begin < looks[1] and looks[-2] <= end < looks[-1]


def history_of(road, case):
    """The history through the points of a case."""
    points = case.points
    if not isinstance(points, tuple):
        raise BadCase("points")
    try:
        return Through(road.pace, *points)
    except (BadHistory, TooMany) as error:
        raise BadCase("points") from error


def check_beginnings(road, case):
    """Refuses what are no beginnings of the road's whole train."""
    beginnings = case.beginnings
    if not isinstance(beginnings, tuple):
        raise BadCase("beginnings")
    try:
        Shaft(road.whole, *beginnings)
    except BadBeginning as error:
        raise BadCase("beginnings") from error


def is_at_most(road, paper):
    """Whether a paper of a length shows its number."""
    if not is_side(paper.side) or not isinstance(paper.number, Ratio) or not is_within(paper.length, 0, FAR):
        return False
    if not are_behind(paper.behind, paper.length) or paper.length + sum(paper.behind) > MOST_TICKS:
        return False
    if paper.side == "below":
        gauge = below_gauge(road)
        late = gauge.longest(paper.length, paper.behind[1])
        sums = sums_of_covers(road.pace, paper.covers, late, paper.length)
        return sums is not None and keeps(road, paper.number, gauge.gap_of(sums[0], sums[1]))
    return is_at_most_above(road, paper)


def is_at_most_above(road, paper):
    """Whether the pairs of covers of a paper show its number: one pair for each lag."""
    gauge = above_gauge(road)
    spans = gauge.spans(paper.length + paper.behind[0] - paper.behind[1])
    if not isinstance(paper.covers, tuple) or len(paper.covers) != len(spans):
        return False
    for lag, span in enumerate(spans):
        sums = sums_of_covers(road.pace, paper.covers[lag], lag + paper.behind[0], span)
        if sums is None:
            return False
        # Without a look in the window nothing is told of it: that is no gap above the truth.
        if not keeps(road, paper.number, gauge.gap_of(sums[0], sums[1]) if span > 0 else 0):
            return False
    return True


def is_always(road, paper):
    """Whether a paper of all lengths shows its number."""
    if not is_side(paper.side) or not isinstance(paper.number, Ratio):
        return False
    if paper.side == "below" and not road.train.is_exact:
        return False
    lets = sum_of_cover(road.pace, paper.cover, road.habit.hole - 1)
    gauge = above_gauge(road) if paper.side == "above" else below_gauge(road)
    return lets is not None and keeps(road, paper.number, gauge.plain_of(lets))


def keeps(road, number, gap):
    """Whether a gap, told times the road's scale, does not pass a number."""
    return Ratio(gap, road.scale).at_most(number)


def sums_of_covers(pace, value, one, other):
    """What any value that is a pair of covers of so many ticks lets, None if it is none."""
    if not isinstance(value, tuple) or len(value) != 2:
        return None
    sums = (sum_of_cover(pace, value[0], one), sum_of_cover(pace, value[1], other))
    return None if None in sums else sums


def sum_of_cover(pace, value, ticks):
    """What any value that is a cover of so many ticks lets, None if it is none."""
    if not are_within(value, len(pace.rules), MOST_TIMES):
        return None
    if sum([many * rule[0] for many, rule in zip(value, pace.rules)]) < ticks:
        return None
    return sum([many * rule[1] for many, rule in zip(value, pace.rules)])
