"""The gaps of roads: how far above and below the truth a window can be told."""

from gaugeroad.errors import BadCase, BadNumber, BadRoad, Forgotten, Nothing, NotYet, TooMany
from gaugeroad.gauges import MOST_TICKS
from gaugeroad.growths import Growth
from gaugeroad.kinds import check_number, is_pair_within
from gaugeroad.peaks import peak_below
from gaugeroad.ratios import Ratio
from gaugeroad.roads import above_gauge, below_gauge, check_road

FAR = 10 ** 30
MOST_BEHIND = 1000
MOST_WIDTH = 600


def above(road, length, behind=(0, 0)):
    """The gap above of windows of a length, a and b lying so far behind."""
    check_window(road, length, behind)
    return Ratio(above_gauge(road).gap(length + behind[0] - behind[1], behind[0]), road.scale)


def below(road, length, behind=(0, 0)):
    """The gap below of windows of a length, a and b lying so far behind."""
    check_window(road, length, behind)
    return Ratio(below_gauge(road).gap(length, behind[1]), road.scale)


def plain_above(road, behind=(0, 0)):
    """The gap above of all windows that are long enough."""
    check_road(road)
    check_behind(behind)
    return Ratio(above_gauge(road).plain(behind[0]), road.scale)


def plain_below(road, behind=(0, 0)):
    """The gap below of all windows that are long enough."""
    check_road(road)
    check_behind(behind)
    check_exact(road)
    return Ratio(below_gauge(road).plain(behind[1]), road.scale)


def plain_from(road, side):
    """The least length from which on the gap of a side is the plain one."""
    check_road(road)
    check_side(side)
    if side == "above":
        return plain_above_from(above_gauge(road))
    check_exact(road)
    late = road.pace.top_of(road.habit.hole - 1)
    return road.pace.soonest_of(late + peak_below(road.whole.least_growth, road.whole.worth)[1])


def above_growth(road):
    """The growth of the gap above, times the road's scale."""
    check_road(road)
    gauge = above_gauge(road)
    return Growth([gauge.gap(length, 0) for length in range(plain_above_from(gauge) + 1)])


def below_growth(road):
    """The growth of the gap below, times the road's scale."""
    check_road(road)
    gauge = below_gauge(road)
    hole = road.habit.hole
    tops = road.pace.top_growth
    late = Growth([road.scale * road.pace.top_of(ticks) for ticks in range(hole)])
    between = (tops - Growth.constant(road.pace.top_of(hole - 1))) | Growth.constant(0)
    return late + gauge.highest.after(between)


def aged(road, side, length, age):
    """The greatest gap of a side over all windows of a length whose end has an age."""
    check_road(road)
    check_side(side)
    check_number(length, 0, FAR)
    check_number(age, 0, FAR)
    check_ages(road, length, age)
    # Windows are alike if they lie so far apart as a multiple of both widths, which is the first one.
    width, fine = road.tiers.width_of(age + length), road.tiers.width_of(age)
    if width > MOST_WIDTH:
        raise TooMany("ticks", MOST_WIDTH)
    if side == "below":
        # The farther b lies behind the wider is the gap, wherever a lies.
        return Ratio(below_gauge(road).gap(length, fine - 1), road.scale)
    gauge = above_gauge(road)
    pairs = [(length + late - (late + length) % fine, late) for late in range(width)]
    for ticks, late in pairs:
        gauge.check(ticks, late)
    # Of windows whose ends lie equally far behind, that with the begin farthest behind has the widest gap.
    return Ratio(max([gauge.gap(ticks, late) for ticks, late in pairs[-fine:]]), road.scale)


def plain_above_from(gauge):
    """The least length from which on the gap above is the plain one."""
    plain = gauge.plain(0)
    # The gap never shrinks while windows grow, and it is never wider than the plain one.
    if gauge.gap(MOST_TICKS, 0) != plain:
        raise TooMany("ticks", MOST_TICKS)
    low, high = 0, MOST_TICKS
    while low < high:
        middle = (low + high) // 2
        if gauge.gap(middle, 0) == plain:
            high = middle
        else:
            low = middle + 1
    return low


def check_window(road, length, behind):
    """Refuses what is no road, no length, and no pair of distances that such a window can have."""
    check_road(road)
    check_number(length, 0, FAR)
    check_behind(behind)
    if behind[1] > length + behind[0]:
        raise BadNumber(behind)


def check_behind(behind):
    """Refuses any value that is no pair of distances behind."""
    if not is_pair_within(behind, 0, MOST_BEHIND):
        raise BadNumber(behind)


def is_side(value):
    """Whether any value is a side."""
    return isinstance(value, str) and value in ("above", "below")


def check_side(side):
    """Refuses any value that is no side."""
    if not is_side(side):
        raise BadCase("side")


def check_exact(road):
    """Refuses a road of whose gaps below none is the widest."""
    if not road.train.is_exact:
        raise Nothing()


def check_ages(road, length, age):
    """Refuses a window whose ends cannot be read at an age of its end."""
    if road.tiers is None:
        raise BadRoad("tiers")
    if age < road.patience:
        raise NotYet(age)
    if age + length > road.tiers.oldest:
        raise Forgotten(age)
