"""What comes in a play, tick by tick, and what the register counts of it."""

from gaugeroad.paces import MOST_TICKS
from gaugeroad.shafts import counts_from


class Flow:
    """What came up to a moment; it never changes."""

    def __init__(self, moment, came, recent, base, life):
        self.moment = moment
        self.came = came
        # The amounts of the last ticks, as many as a rule of a pace can ask for.
        self.recent = recent
        # All counts when the register began anew the last time, and how often it did.
        self.base = base
        self.life = life

    def can_go_on(self, pace, amount):
        """Whether a pace lets an amount come in the next tick."""
        rows = (*self.recent, amount)
        return all([sum(rows[-ticks:]) <= most for ticks, most in pace.rules])

    def led_on(self, amount):
        """The flow behind one more tick."""
        rows = (*self.recent, amount)
        return Flow(self.moment + 1, self.came + amount, rows[-MOST_TICKS:], self.base, self.life)

    def anew(self, total):
        """The flow with a register that begins anew behind so many counts."""
        return Flow(self.moment, self.came, self.recent, total, self.life + 1)


def total_of(road, beginnings, flow):
    """All counts up to now."""
    return counts_from(road.train, beginnings, flow.came)


def shown(road, beginnings, flow):
    """What the register shows now."""
    return road.display.shows(total_of(road, beginnings, flow) - flow.base, flow.life)
