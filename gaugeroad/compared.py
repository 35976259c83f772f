"""Two roads, or two trains, held against each other over windows of all lengths."""

from gaugeroad.cases import case_above, case_below
from gaugeroad.errors import BadRoad, Endless, Unlike
from gaugeroad.gaps import above_growth, below_growth
from gaugeroad.growths import greatest_up_to, least_above
from gaugeroad.papers import paper_at_most
from gaugeroad.roads import Road
from gaugeroad.shafts import best_beginnings, worst_beginnings
from gaugeroad.trains import check_train
from gaugeroad.verdicts import Verdict


class Narrow(Verdict):
    """No gap of one is wider than that of other: the growths of the gaps of both."""

    def __init__(self, above, below):
        self.above = above
        self.below = below

    def __eq__(self, other):
        return isinstance(other, Narrow) and self.above == other.above and self.below == other.below

    def __bool__(self):
        return True


class Wider(Verdict):
    """A length at which one has a wider gap: a case of one shows it, and a paper of other."""

    def __init__(self, side, length, case, paper):
        self.side = side
        self.length = length
        self.case = case
        self.paper = paper

    def told(self):
        """All that it was made of."""
        return self.side, self.length, self.case, self.paper

    def __eq__(self, other):
        return isinstance(other, Wider) and self.told() == other.told()

    def __bool__(self):
        return False


class SameWindows(Verdict):
    """Both trains let out as few and as many counts by each amount."""

    def __init__(self, lows, highs):
        self.lows = lows
        self.highs = highs

    def __eq__(self, other):
        return isinstance(other, SameWindows) and self.lows == other.lows and self.highs == other.highs

    def __bool__(self):
        return True


class OtherWindow(Verdict):
    """Counts that only one of both trains can let out by an amount, and beginnings with which it does."""

    def __init__(self, amount, counts, beginnings):
        self.amount = amount
        self.counts = counts
        self.beginnings = beginnings

    def told(self):
        """All that it was made of."""
        return self.amount, self.counts, self.beginnings

    def __eq__(self, other):
        return isinstance(other, OtherWindow) and self.told() == other.told()

    def __bool__(self):
        return False


def never_wider(one, other):
    """Whether at no length a gap of one is greater than that of other."""
    check_roads(one, other)
    pairs = pairs_of_growths(one, other)
    first = first_wider(leads_of(one, other, pairs))
    if first is None:
        return Narrow(pairs[0], pairs[1])
    length, side = first
    case = case_above(one, length) if side == "above" else case_below(one, length)
    return Wider(side, length, case, paper_at_most(other, side, length))


def from_on(one, other):
    """The least length from which on no gap of one is greater than that of other, or None."""
    check_roads(one, other)
    leads = leads_of(one, other, pairs_of_growths(one, other))
    lasts = [last_above(lead) for lead in leads]
    return None if None in lasts else max(lasts) + 1


def order(one, other):
    """Which of both roads is never wider."""
    check_roads(one, other)
    leads = leads_of(one, other, pairs_of_growths(one, other))
    is_narrow = first_wider(leads) is None
    is_wide = first_wider([-lead for lead in leads]) is None
    if is_narrow:
        return "alike" if is_wide else "better"
    return "worse" if is_wide else "apart"


def alike_windows(one, other):
    """Whether by any amount two fine trains can let out the same numbers of counts."""
    check_fine_trains(one, other)
    lows, highs = one.least_growth, one.most_growth
    fewer, more = lows - other.least_growth, highs - other.most_growth
    amounts = [least_above(lead, 0) for lead in (fewer, -fewer, more, -more)]
    found = [amount for amount in amounts if amount is not None]
    if not found:
        return SameWindows(lows, highs)
    amount = min(found)
    least = fewer.value_at(amount)
    if least != 0:
        train = one if least < 0 else other
        return OtherWindow(amount, train.fewest_of(amount), worst_beginnings(train, amount))
    train = one if more.value_at(amount) > 0 else other
    return OtherWindow(amount, train.most_of(amount), best_beginnings(train, amount))


def check_roads(one, other):
    """Refuses the first of both that is no road."""
    if not isinstance(one, Road):
        raise BadRoad("one")
    if not isinstance(other, Road):
        raise BadRoad("other")


def check_fine_trains(one, other):
    """Refuses the first of both that is no train, then the first one that is not fine."""
    check_train(one, "one")
    check_train(other, "other")
    if not one.is_fine:
        raise Unlike("one")
    if not other.is_fine:
        raise Unlike("other")


def pairs_of_growths(one, other):
    """The growths of the gaps above of both, and those of the gaps below."""
    above = (above_growth(one), above_growth(other))
    return above, (below_growth(one), below_growth(other))


def leads_of(one, other, pairs):
    """For both sides by how much the gap of one is greater, times the scales of both."""
    return [mine * other.scale - its * one.scale for mine, its in pairs]


def first_wider(leads):
    """The least length at which one leads, and the side, or None."""
    lengths = [least_above(lead, 0) for lead in leads]
    found = [length for length in lengths if length is not None]
    if not found:
        return None
    return min(found), "above" if lengths[0] == min(found) else "below"


def last_above(lead):
    """The greatest length at which one leads, -1 if it never does, None if it does so for ever."""
    try:
        last = greatest_up_to(-lead, -1)
    except Endless:
        return None
    return -1 if last is None else last
