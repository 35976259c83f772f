"""A look at what is told of a register and a hole, without a search for it."""

from gaugeroad.holes import Sure, Unsure, check_hole
from gaugeroad.kinds import are_counts
from gaugeroad.paces import can_come


def shows_sure(train, display, pace, hole, value):
    """Whether any value is a right answer to whether differences can be told."""
    check_hole(train, display, pace, hole)
    if isinstance(value, Sure):
        return is_sure(train, display, pace, hole, value.times)
    if isinstance(value, Unsure) and display.modulus is not None:
        return is_unsure(train, display, pace, hole, value.amounts)
    return False


def is_sure(train, display, pace, hole, times):
    """Whether any value is a cover of the hole that lets too few counts to come round."""
    if display.modulus is None:
        return are_counts(times, 0)
    if not are_counts(times, len(pace.rules)):
        return False
    ticks = sum([many * rule[0] for many, rule in zip(times, pace.rules)])
    amount = sum([many * rule[1] for many, rule in zip(times, pace.rules)])
    return ticks >= hole and train.most_of(amount) < display.modulus


def is_unsure(train, display, pace, hole, amounts):
    """Whether any value is what can come in the hole while the reading comes round."""
    if not are_counts(amounts, hole) or not can_come(pace.rules, amounts):
        return False
    return train.most_of(sum(amounts)) == display.modulus
