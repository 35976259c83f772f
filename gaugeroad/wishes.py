"""What is wished of a road."""

from gaugeroad.alarms import Alarm, heard
from gaugeroad.bursts import is_burst, is_read_surely
from gaugeroad.errors import BadAlarm, BadRoad, BadWish
from gaugeroad.gaps import above, below
from gaugeroad.kinds import check_number, is_whole
from gaugeroad.ratios import Ratio, as_ratio
from gaugeroad.roads import Road, check_road

MOST_LENGTH = 600
FAR = 10 ** 30
WISHED_PARTS = ("sure", "above", "below", "heard")


class Wish:
    """Bounds of both gaps of a length, whether the register is to be surely read, and a burst to be heard."""

    def __init__(self, length, *, most_above=None, most_below=None, sure=False, hears=None):
        check_number(length, 0, MOST_LENGTH)
        if not is_bound(most_above):
            raise BadWish("most_above")
        if not is_bound(most_below):
            raise BadWish("most_below")
        if not isinstance(sure, bool):
            raise BadWish("sure")
        if hears is not None and not is_hearing(hears):
            raise BadWish("hears")
        self.length = length
        self.most_above = None if most_above is None else as_ratio(most_above)
        self.most_below = None if most_below is None else as_ratio(most_below)
        self.sure = sure
        self.hears = hears

    def lacks(self, road):
        """The first part of the wish that a road does not keep, or None."""
        check_road(road)
        for part in WISHED_PARTS:
            if lacks_part(self, road, part):
                return part
        return None

    def kept_by(self, road):
        """Whether any value is a road that keeps all of the wish."""
        return isinstance(road, Road) and self.lacks(road) is None

    def told(self):
        """All that it was made of."""
        return self.length, self.most_above, self.most_below, self.sure, self.hears

    def __and__(self, other):
        if not isinstance(other, Wish):
            raise BadWish("other")
        if self.length != other.length:
            raise BadWish("length")
        if self.hears is not None and other.hears is not None and self.hears != other.hears:
            raise BadWish("hears")
        return Wish(self.length, most_above=lesser(self.most_above, other.most_above),
                    most_below=lesser(self.most_below, other.most_below), sure=self.sure or other.sure,
                    hears=other.hears if self.hears is None else self.hears)

    def __eq__(self, other):
        return isinstance(other, Wish) and self.told() == other.told()


def is_bound(value):
    """Whether any value is None, or a number that bounds a gap."""
    if value is None:
        return True
    if not is_whole(value) and not isinstance(value, Ratio):
        return False
    return Ratio(0).at_most(value) and as_ratio(value).at_most(FAR)


def is_hearing(value):
    """Whether any value is a pair of an alarm and a burst."""
    if not isinstance(value, tuple) or len(value) != 2:
        return False
    return isinstance(value[0], Alarm) and is_burst(value[1])


def lesser(one, other):
    """The lesser one of two bounds, None standing for no bound."""
    if one is None or other is None:
        return other if one is None else one
    return one if one.at_most(other) else other


def lacks_part(wish, road, part):
    """Whether a part of a wish is wished, and a road does not keep it."""
    if part == "sure":
        return wish.sure and not is_read_surely(road)
    if part == "above":
        return wish.most_above is not None and wish.most_above.less(above(road, wish.length))
    if part == "below":
        return wish.most_below is not None and wish.most_below.less(below(road, wish.length))
    return wish.hears is not None and not is_heard(road, wish.hears)


def is_heard(road, hears):
    """Whether an alarm hears a burst, and can be asked of the road."""
    alarm, burst = hears
    try:
        return bool(heard(road, alarm, burst))
    except (BadRoad, BadAlarm):
        return False
