"""A look at what is told of alarms, without a search for it."""

from gaugeroad.alarms import Covers, Heard, Missed, Never, Silent, Surely, Tells, Uncovered, check_alarmed, check_covers
from gaugeroad.alarms import check_heard, covers_of
from gaugeroad.bursts import MOST_TICKS, check_watched, span_of_columns
from gaugeroad.kinds import are_counts, are_within, check_number, is_whole
from gaugeroad.paces import can_come
from gaugeroad.shafts import are_beginnings, counts_from

MOST_TOLD = 10 ** 9


def shows_covers(habit, width, columns, ticks, value):
    """Whether any value is a right answer to whether so many columns cover so many ticks."""
    check_covers(habit, width, columns, ticks)
    if isinstance(value, Covers):
        return is_table(habit, (columns - 1) * width, ticks, value.table)
    return isinstance(value, Uncovered) and are_lengths(habit, (columns - 1) * width, ticks, value.lengths)


def shows_heard(road, alarm, burst, value):
    """Whether any value is the right kind of answer to whether an alarm hears a burst, and right."""
    check_heard(road, alarm, burst)
    amount, ticks = burst
    if road.pace.top_of(ticks) < amount:
        return isinstance(value, Never) and lets_less(road.pace.rules, value.cover, ticks, amount)
    distance = (alarm.columns - 1) * road.width
    if isinstance(value, Uncovered):
        return are_lengths(road.habit, distance, ticks, value.lengths)
    if isinstance(value, Heard):
        return alarm.on <= road.whole.fewest_of(amount) and is_table(road.habit, distance, ticks, value.table)
    if not isinstance(value, Missed) or not covers_of(road.habit, road.width, alarm.columns, ticks):
        return False
    if not can_be(road.pace.rules, value.amounts, ticks, amount) or not are_beginnings(road.whole, value.beginnings):
        return False
    return counts_from(road.whole, value.beginnings, amount) < alarm.on


def shows_tells(road, alarm, value):
    """Whether any value is a right answer to what came where an alarm goes on."""
    check_alarmed(road, alarm)
    check_watched(road, alarm.columns)
    amount, span = road.whole.least_for(alarm.on), span_of_columns(road, alarm.columns)
    if isinstance(value, Silent):
        return lets_less(road.pace.rules, value.cover, span, amount)
    if not isinstance(value, Tells) or not is_whole(value.amount) or not is_whole(value.span):
        return False
    return (value.amount, value.span) == (amount, span) and amount <= road.pace.top_of(span)


def shows_surely(road, alarm, ticks, value):
    """Whether any value is a right answer to what surely came in some so many ticks where an alarm goes on."""
    check_alarmed(road, alarm)
    check_number(ticks, 1, MOST_TICKS)
    check_watched(road, alarm.columns)
    need, span = road.whole.least_for(alarm.on), span_of_columns(road, alarm.columns)
    if not isinstance(value, Surely) or not is_whole(value.amount):
        return False
    rules = [*road.pace.rules, (ticks, value.amount)]
    if not can_be(rules, value.amounts, span, need) or not are_beginnings(road.whole, value.beginnings):
        return False
    if counts_from(road.whole, value.beginnings, need) < alarm.on:
        return False
    if value.amount == 1:
        return value.cover is None
    return lets_less([*road.pace.rules, (ticks, value.amount - 1)], value.cover, span, need)


def is_table(habit, distance, ticks, table):
    """Whether any value is a table that keeps its own rows, and the first looks within a distance."""
    if not isinstance(table, tuple) or len(table) != len(habit.states):
        return False
    if not all([are_within(row, ticks, MOST_TOLD) for row in table]):
        return False
    if not all([row[-1] <= distance for row in table]):
        return False
    return all([follows(row, edges, table) for row, edges in zip(table, habit.states)])


def follows(row, edges, table):
    """Whether no number of a row is below what follows from an edge."""
    for length, after in edges:
        for least in range(1, len(row)):
            if row[least] < length + (table[after][least - length] if length < least else 0):
                return False
    return True


def are_lengths(habit, distance, ticks, lengths):
    """Whether any value is a row of lengths that passes so many ticks only by its last one, and the distance."""
    if lengths not in habit or lengths == ():
        return False
    together = sum(lengths)
    return together - lengths[-1] < ticks - 1 <= together and together > distance


def lets_less(rules, cover, ticks, amount):
    """Whether any value is a cover of so many ticks by rules that lets less than an amount."""
    if not are_within(cover, len(rules), MOST_TOLD):
        return False
    if sum([many * rule[0] for many, rule in zip(cover, rules)]) < ticks:
        return False
    return sum([many * rule[1] for many, rule in zip(cover, rules)]) < amount


def can_be(rules, amounts, ticks, amount):
    """Whether any value is what can come by rules in so many ticks, an amount together."""
    return are_counts(amounts, ticks) and sum(amounts) == amount and can_come(rules, amounts)
