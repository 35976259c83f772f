"""Alarms over the last columns of a chart: which bursts they surely hear, and what surely came where they go on."""

from gaugeroad.bursts import MOST_COLUMNS, MOST_TICKS, MOST_WATCHED, check_burst, check_watched, columns_up_to
from gaugeroad.bursts import span_of_columns
from gaugeroad.errors import BadAlarm, Nothing, TooMany
from gaugeroad.habits import check_habit
from gaugeroad.holes import fastest_up_to
from gaugeroad.kinds import check_number, is_within
from gaugeroad.lags import first_looks
from gaugeroad.paces import tops_up_to
from gaugeroad.roads import check_road
from gaugeroad.shafts import best_beginnings, worst_beginnings
from gaugeroad.verdicts import Verdict

MOST_WIDTH = 1000
MOST_ON = 10 ** 20


class Alarm:
    """Watches so many columns: goes on where they tell on or more, and off where they tell less than off."""

    def __init__(self, columns, on, off=None):
        check_number(columns, 1, MOST_COLUMNS)
        check_number(on, 1, MOST_ON)
        if off is not None and not is_within(off, 1, on):
            raise BadAlarm("off")
        self.columns = columns
        self.on = on
        self.off = on if off is None else off

    def __eq__(self, other):
        if not isinstance(other, Alarm):
            return False
        return self.columns == other.columns and self.on == other.on and self.off == other.off


class Covers(Verdict):
    """Each stretch lies between the looks of watched columns: how far the first look so much later can lie."""

    def __init__(self, table):
        self.table = table

    def __eq__(self, other):
        return isinstance(other, Covers) and self.table == other.table

    def __bool__(self):
        return True


class Uncovered(Verdict):
    """Lengths of looks between which a stretch can lie, too far apart for the watched columns."""

    def __init__(self, lengths):
        self.lengths = lengths

    def __eq__(self, other):
        return isinstance(other, Uncovered) and self.lengths == other.lengths

    def __bool__(self):
        return False


class Never(Verdict):
    """The pace allows no such burst: a cover of its ticks lets too little."""

    def __init__(self, cover):
        self.cover = cover

    def __eq__(self, other):
        return isinstance(other, Never) and self.cover == other.cover

    def __bool__(self):
        return True


class Heard(Verdict):
    """Each such burst is heard: the table of Covers."""

    def __init__(self, table):
        self.table = table

    def __eq__(self, other):
        return isinstance(other, Heard) and self.table == other.table

    def __bool__(self):
        return True


class Missed(Verdict):
    """A burst that moves too few counts from these beginnings."""

    def __init__(self, amounts, beginnings):
        self.amounts = amounts
        self.beginnings = beginnings

    def __eq__(self, other):
        if not isinstance(other, Missed):
            return False
        return self.amounts == other.amounts and self.beginnings == other.beginnings

    def __bool__(self):
        return False


class Tells(Verdict):
    """Where the alarm goes on, at least this amount came in at most so many ticks."""

    def __init__(self, amount, span):
        self.amount = amount
        self.span = span

    def __eq__(self, other):
        return isinstance(other, Tells) and self.amount == other.amount and self.span == other.span

    def __bool__(self):
        return True


class Silent(Verdict):
    """The alarm never goes on: a cover of the ticks between the looks lets too little."""

    def __init__(self, cover):
        self.cover = cover

    def __eq__(self, other):
        return isinstance(other, Silent) and self.cover == other.cover

    def __bool__(self):
        return False


class Surely:
    """What surely came in some ticks where an alarm goes on: a cover shows it, and amounts that no more need come."""

    def __init__(self, amount, cover, amounts, beginnings):
        self.amount = amount
        self.cover = cover
        self.amounts = amounts
        self.beginnings = beginnings

    def told(self):
        """All that it was made of."""
        return self.amount, self.cover, self.amounts, self.beginnings

    def __eq__(self, other):
        return isinstance(other, Surely) and self.told() == other.told()


def covers(habit, width, columns, ticks):
    """Whether each stretch of so many ticks lies between the looks of so many columns."""
    check_covers(habit, width, columns, ticks)
    return covers_of(habit, width, columns, ticks)


def columns_for(road, ticks):
    """The fewest columns that cover so many ticks."""
    check_road(road)
    check_number(ticks, 1, MOST_TICKS)
    check_watched(road, 0)
    farthest = max([row[-1] for row in first_looks(road.habit, ticks - 1)])
    columns = 1 + -(-farthest // road.width)
    if columns > MOST_COLUMNS:
        raise TooMany("columns", MOST_COLUMNS)
    return columns


def heard(road, alarm, burst):
    """Whether an alarm hears each such burst."""
    check_heard(road, alarm, burst)
    amount, ticks = burst
    if road.pace.top_of(ticks) < amount:
        return Never(road.pace.covering(ticks))
    covered = covers_of(road.habit, road.width, alarm.columns, ticks)
    if not covered:
        return covered
    if alarm.on <= road.whole.fewest_of(amount):
        return Heard(covered.table)
    return Missed(fastest_up_to(road.pace, amount, ticks), worst_beginnings(road.whole, amount))


def level_for(road, burst):
    """The greatest on with which an alarm that covers its ticks hears a burst."""
    check_road(road)
    check_burst(burst, "burst")
    check_watched(road, 0)
    amount, ticks = burst
    level = road.whole.fewest_of(amount)
    if level == 0 or road.pace.top_of(ticks) < amount:
        raise Nothing()
    return level


def tells(road, alarm):
    """What came in which ticks where an alarm goes on."""
    check_alarmed(road, alarm)
    check_watched(road, alarm.columns)
    amount, span = road.whole.least_for(alarm.on), span_of_columns(road, alarm.columns)
    if road.pace.top_of(span) < amount:
        return Silent(road.pace.covering(span))
    return Tells(amount, span)


def surely(road, alarm, ticks):
    """The least that came in some so many ticks where an alarm goes on."""
    check_alarmed(road, alarm)
    check_number(ticks, 1, MOST_TICKS)
    check_watched(road, alarm.columns)
    need, span = road.whole.least_for(alarm.on), span_of_columns(road, alarm.columns)
    if road.pace.top_of(span) < need:
        raise Nothing()
    amount = least_in(road.pace, span, need, ticks)
    tops = [min(need, top) for top in tops_up_to([*road.pace.rules, (ticks, amount)], span)]
    amounts = tuple([after - ahead for ahead, after in zip(tops, tops[1:])])
    return Surely(amount, cover_below(road.pace, span, need, (ticks, amount - 1)), amounts,
                  best_beginnings(road.whole, need))


def spares(road, alarm, quiet):
    """Whether an alarm goes on only where a burst has come."""
    check_alarmed(road, alarm)
    check_burst(quiet, "quiet")
    check_watched(road, alarm.columns)
    return road.whole.least_for(alarm.on) > most_without(road.pace, span_of_columns(road, alarm.columns), quiet)


def levels(road, columns, burst, quiet):
    """The least and the greatest on with which so many columns hear a burst and spare a quiet one, or None."""
    check_road(road)
    check_number(columns, 1, MOST_COLUMNS)
    check_burst(burst, "burst")
    check_burst(quiet, "quiet")
    check_watched(road, columns)
    amount, ticks = burst
    if road.pace.top_of(ticks) < amount or not covers_of(road.habit, road.width, columns, ticks):
        return None
    least = road.whole.most_of(most_without(road.pace, span_of_columns(road, columns), quiet)) + 1
    greatest = road.whole.fewest_of(amount)
    return (least, greatest) if least <= greatest else None


def longest_wait(road):
    """How long behind the end of a burst that is heard the alarm can be read as on, at most."""
    check_road(road)
    check_watched(road, 0)
    return road.habit.hole + road.width - 2 + road.patience


def calm(road, alarm):
    """How many columns behind one at which it goes off an alarm can go on again, at the earliest."""
    check_alarmed(road, alarm)
    check_watched(road, alarm.columns)
    # From less than off the watched columns rise to on by what the columns in between tell.
    columns = columns_up_to(road, road.pace.soonest_of(road.whole.least_for(alarm.on - alarm.off + 1)))
    if columns is None:
        raise TooMany("ticks", MOST_WATCHED)
    return columns


def check_covers(habit, width, columns, ticks):
    """Refuses values of which covers cannot be asked."""
    check_habit(habit)
    check_number(width, 1, MOST_WIDTH)
    check_number(columns, 1, MOST_COLUMNS)
    check_number(ticks, 1, MOST_TICKS)


def check_alarmed(road, alarm):
    """Refuses what is no road, and what is no alarm."""
    check_road(road)
    if not isinstance(alarm, Alarm):
        raise BadAlarm("alarm")


def check_heard(road, alarm, burst):
    """Refuses values of which it cannot be asked whether a burst is heard."""
    check_alarmed(road, alarm)
    check_burst(burst, "burst")
    check_watched(road, alarm.columns)


def covers_of(habit, width, columns, ticks):
    """The Covers of so many columns and ticks, or an Uncovered."""
    rows = first_looks(habit, ticks - 1)
    farthest = max([row[-1] for row in rows])
    if farthest <= (columns - 1) * width:
        return Covers(rows)
    return Uncovered(farthest_walk(habit, rows, ticks - 1))


def farthest_walk(habit, rows, ticks):
    """The lengths of a walk whose first look so many ticks later lies as far behind as can be."""
    ends = [row[ticks] for row in rows]
    state = ends.index(max(ends))
    lengths = []
    while ticks > 0:
        length, state = farthest_edge(habit.states[state], rows, ticks)
        lengths.append(length)
        ticks = max(0, ticks - length)
    return tuple(lengths)


def farthest_edge(edges, rows, ticks):
    """The edge behind which the first look so many ticks later lies as far behind as can be."""
    ends = [length + rows[after][max(0, ticks - length)] for length, after in edges]
    return edges[ends.index(max(ends))]


def most_without(pace, span, quiet):
    """The most that comes in a span in which no burst like the quiet one comes."""
    amount, ticks = quiet
    return min([many * (amount - 1) + pace.top_of(max(0, span - many * ticks)) for many in stretches(span, ticks)])


def least_in(pace, span, need, ticks):
    """The least that can come in any so many ticks if so much as is needed comes in a span."""
    left = [need - pace.top_of(max(0, span - many * ticks)) for many in stretches(span, ticks)]
    return max([1, *[-(-left[many] // many) for many in range(1, len(left))]])


def cover_below(pace, span, need, rule):
    """How often each rule of a pace, and one more, is taken for less than is needed in a span; None without that."""
    ticks, most = rule
    if most == 0:
        return None
    lets = [many * most + pace.top_of(max(0, span - many * ticks)) for many in stretches(span, ticks)]
    often = [at for at, amount in enumerate(lets) if amount < need][0]
    return (*pace.covering(max(0, span - often * ticks)), often)


def stretches(span, ticks):
    """How often so many ticks may be taken for a span."""
    return list(range(-(-span // ticks) + 1))
