"""The greatest distance between a growth and the amount that it tells."""

from gaugeroad.errors import BadGrowth, BadRatio, Nothing
from gaugeroad.growths import Growth
from gaugeroad.kinds import check_number
from gaugeroad.ratios import Ratio

FAR = 10 ** 40


def peak_above(most, worth, low=0, high=None):
    """The greatest worth * most(D) - D for D from low to high, and the least such D."""
    if not isinstance(most, Growth):
        raise BadGrowth("most")
    check_worth(worth)
    check_number(low, 0, FAR)
    check_high(low, high)
    return peak(most, worth.up, -worth.down, worth.down, low, high)


def peak_below(least, worth, high=None):
    """The greatest D - worth * least(D) for D from 0 to high, and the least such D."""
    if not isinstance(least, Growth):
        raise BadGrowth("least")
    check_worth(worth)
    check_high(0, high)
    return peak(least, -worth.up, worth.down, worth.down, 0, high)


def check_worth(worth):
    """Refuses any value that is no fraction from 0 on."""
    if not isinstance(worth, Ratio) or worth.up < 0:
        raise BadRatio(worth)


def check_high(low, high):
    """Refuses any value that is no end behind low."""
    if high is not None:
        check_number(high, low, FAR)


def peak(growth, times, slope, down, low, high):
    """The greatest (times * growth(D) + slope * D) / down, and the least D that has it."""
    best, best_at = None, None
    for at in places_to_try(growth, times * sum(growth.gains) + slope * len(growth.gains), low, high):
        height = times * growth.value_at(at) + slope * at
        if best is None or height > best or (height == best and at < best_at):
            best, best_at = height, at
    return Ratio(best, down), best_at


def places_to_try(growth, rise, low, high):
    """Numbers among which the greatest height is, if it rises so much from round to round."""
    if rise > 0 and high is None:
        raise Nothing()
    many = len(growth.gains)
    last_head = len(growth.head) - 1
    begin = max(low, last_head)
    ends = [last_head, begin + many - 1]
    if high is not None:
        ends = [min(high, end) for end in ends]
    steady = list(range(begin, ends[1] + 1))
    if rise > 0:
        # Each place of a round is best the last time that it comes.
        steady = [at + (high - at) // many * many for at in steady]
    return list(range(low, ends[0] + 1)) + steady
