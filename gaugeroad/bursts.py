"""Of which bursts and of which roads alarms can be asked."""

from gaugeroad.errors import BadAlarm, BadRoad, TooMany
from gaugeroad.holes import sureness
from gaugeroad.kinds import is_within
from gaugeroad.registers import Plain, Restarting
from gaugeroad.walks import Walks

MOST_AMOUNT = 10 ** 9
MOST_TICKS = 200
MOST_COLUMNS = 50
MOST_WATCHED = 1000


def is_burst(value):
    """Whether any value is a pair of an amount and of the ticks in which it comes."""
    if not isinstance(value, tuple) or len(value) != 2:
        return False
    return is_within(value[0], 1, MOST_AMOUNT) and is_within(value[1], 1, MOST_TICKS)


def check_burst(burst, name):
    """Refuses any value that is no burst, told by a name."""
    if not is_burst(burst):
        raise BadAlarm(name)


def is_read_surely(road):
    """Whether each difference of totals of a road can be told from its readings."""
    if isinstance(road.display, Restarting):
        return False
    if isinstance(road.display, Plain):
        return True
    return bool(sureness(road.train, road.display, road.pace, road.habit.hole))


def check_watched(road, columns):
    """Refuses a road of whose last columns, so many, no alarm can be asked."""
    if not is_read_surely(road):
        raise BadRoad("display")
    watched = columns * road.width
    if watched > MOST_WATCHED:
        raise TooMany("ticks", MOST_WATCHED)
    # The eldest watched border is as old as the patience and all watched columns.
    if road.tiers is not None and road.patience + watched >= road.tiers.pairs[0][1]:
        raise BadAlarm("columns")


def longest_span(habit, walks, ticks):
    """The most ticks between the looks at which the ends of so many ticks are read, whatever the lag."""
    return max([walks.span_of(lag, ticks) for lag in range(habit.hole)])


def span_of_columns(road, columns):
    """The most ticks between the looks at which the ends of so many columns are read."""
    ticks = columns * road.width
    return longest_span(road.habit, Walks(road.habit, road.habit.hole - 1 + ticks), ticks)


def columns_up_to(road, ticks):
    """The fewest columns whose ends are always read at looks so far apart, None if too many ticks are watched."""
    habit = road.habit
    many = MOST_WATCHED // road.width
    walks = Walks(habit, habit.hole - 1 + many * road.width)
    low, high = 1, many + 1
    # More columns are never read at looks that lie nearer to one another.
    while low < high:
        middle = (low + high) // 2
        if longest_span(habit, walks, middle * road.width) >= ticks:
            high = middle
        else:
            low = middle + 1
    return low if low <= many else None
