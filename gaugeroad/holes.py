"""Whether differences of totals can be told from readings."""

from gaugeroad.errors import Endless, Unlike
from gaugeroad.kinds import check_number
from gaugeroad.paces import check_pace
from gaugeroad.registers import check_display
from gaugeroad.trains import check_train
from gaugeroad.verdicts import Verdict

MOST_HOLE = 1000


class Sure(Verdict):
    """Each difference can be told: a cover of the hole lets too few counts."""

    def __init__(self, times):
        self.times = times

    def __eq__(self, other):
        return isinstance(other, Sure) and self.times == other.times

    def __bool__(self):
        return True


class Unsure(Verdict):
    """Amounts of a hole with which the reading can come round."""

    def __init__(self, amounts):
        self.amounts = amounts

    def __eq__(self, other):
        return isinstance(other, Unsure) and self.amounts == other.amounts

    def __bool__(self):
        return False


def sureness(train, display, pace, hole):
    """Whether each difference of totals behind a hole can be told from two readings."""
    check_hole(train, display, pace, hole)
    if display.modulus is None:
        return Sure(())
    if train.most_of(pace.top_of(hole)) < display.modulus:
        return Sure(pace.covering(hole))
    # Of a fine train each number of counts is met: just as many as the modulus, too.
    return Unsure(fastest_up_to(pace, train.least_for(display.modulus), hole))


def least_modulus(train, pace, hole):
    """The least modulus with which it is sure."""
    check_train(train, None)
    check_pace(pace)
    check_number(hole, 1, MOST_HOLE)
    check_fine(train)
    return max(2, train.most_of(pace.top_of(hole)) + 1)


def longest_sure_hole(train, display, pace):
    """The greatest hole with which it is sure, 0 if there is none."""
    check_train(train, None)
    check_display(display)
    check_pace(pace)
    check_fine(train)
    if display.modulus is None:
        raise Endless()
    return pace.soonest_of(train.least_for(display.modulus)) - 1


def check_hole(train, display, pace, hole):
    """Refuses values of which sureness cannot be asked."""
    check_train(train, None)
    check_display(display)
    check_pace(pace)
    check_number(hole, 1, MOST_HOLE)
    check_fine(train)


def check_fine(train):
    """Refuses a train that can let out more than one count for a unit."""
    if not train.is_fine:
        raise Unlike("train")


def fastest_up_to(pace, amount, ticks):
    """What comes tick by tick if all comes as fast as the pace lets, up to an amount."""
    tops = [min(pace.top_of(k), amount) for k in range(ticks + 1)]
    return tuple([after - ahead for ahead, after in zip(tops, tops[1:])])
