"""Histories: how an amount grew, moment by moment."""

from gaugeroad.errors import BadHistory, TooMany
from gaugeroad.kinds import check_number, is_within
from gaugeroad.paces import check_pace
from gaugeroad.rounds import ends_of

FAR_MOMENT = 10 ** 30
FAR_AMOUNT = 10 ** 36
MOST_TICKS = 2000
MOST_POINTS = 12


class History:
    """An amount at each moment that never falls; each kind is a class below."""

    # The interface asks for its methods in the class itself, so each kind has them, too.

    def amount_at(self, t):
        """The amount at any integer, however far out."""
        raise NotImplementedError("each kind of history tells its amounts")

    def moved_by(self, k):
        """The history of the same kind, so much later."""
        raise NotImplementedError("each kind of history moves by itself")

    def told(self):
        """What it was made of, and of which kind it is."""
        raise NotImplementedError("each kind of history tells what it was made of")

    def grown(self, a, b):
        """What comes from a to b."""
        return grown_of(self, a, b)

    def row(self, a, b):
        """What comes in each tick from a to b."""
        return row_of(self, a, b)

    def __call__(self, t):
        return amount_of(self, t)

    def __getitem__(self, t):
        return tick_of(self, t)

    def __iter__(self):
        raise TypeError("a history has no end")

    def __rshift__(self, other):
        return moved_of(self, other)

    def __eq__(self, other):
        return isinstance(other, History) and self.told() == other.told()


class Steps(History):
    """What comes is told tick by tick, from a moment on."""

    def __init__(self, begin, *amounts):
        if not is_moment(begin):
            raise BadHistory("begin")
        for at, amount in enumerate(amounts):
            if not is_within(amount, 0, FAR_AMOUNT):
                raise BadHistory(at)
        if len(amounts) > MOST_TICKS:
            raise TooMany("ticks", MOST_TICKS)
        self.begin = begin
        self.amounts = amounts
        self._sums = (0, *ends_of(amounts))

    def amount_at(self, t):
        """The amount at any integer, however far out."""
        return self._sums[max(0, min(t - self.begin, len(self.amounts)))]

    def moved_by(self, k):
        """The same amounts, so much later."""
        return Steps(self.begin + k, *self.amounts)

    def told(self):
        """What it was made of, and of which kind it is."""
        return "steps", self.begin, self.amounts

    def grown(self, a, b):
        """What comes from a to b."""
        return grown_of(self, a, b)

    def row(self, a, b):
        """What comes in each tick from a to b."""
        return row_of(self, a, b)

    def __call__(self, t):
        return amount_of(self, t)

    def __getitem__(self, t):
        return tick_of(self, t)

    def __iter__(self):
        raise TypeError("a history has no end")

    def __rshift__(self, other):
        return moved_of(self, other)

    def __eq__(self, other):
        return isinstance(other, Steps) and self.told() == other.told()


class Through(History):
    """The greatest history through some points that keeps a pace."""

    def __init__(self, pace, *points):
        pair = barring(pace, *points)
        if pair is not None:
            raise BadHistory(pair)
        self.pace = pace
        self.points = points

    def amount_at(self, t):
        """The amount at any integer, however far out."""
        lets = [amount + self.pace.top_of(max(0, t - moment)) for moment, amount in self.points]
        return min([self.points[-1][1], *lets])

    def moved_by(self, k):
        """The history through the same points, so much later."""
        points = [(moment + k, amount) for moment, amount in self.points]
        return Through(self.pace, *points)

    def told(self):
        """What it was made of, and of which kind it is."""
        return "through", self.pace.rules, self.points

    def grown(self, a, b):
        """What comes from a to b."""
        return grown_of(self, a, b)

    def row(self, a, b):
        """What comes in each tick from a to b."""
        return row_of(self, a, b)

    def __call__(self, t):
        return amount_of(self, t)

    def __getitem__(self, t):
        return tick_of(self, t)

    def __iter__(self):
        raise TypeError("a history has no end")

    def __rshift__(self, other):
        return moved_of(self, other)

    def __eq__(self, other):
        return isinstance(other, Through) and self.told() == other.told()


def barring(pace, *points):
    """The least pair of points that no history with this pace has both, or None."""
    check_pace(pace)
    check_points(points)
    for i, (begin, low) in enumerate(points):
        for j in range(i + 1, len(points)):
            moment, amount = points[j]
            if not 0 <= amount - low <= pace.top_of(moment - begin):
                return i, j
    return None


def fastest(pace, moment, ticks):
    """The history that grows as fast as a pace lets, for so many ticks."""
    check_pace(pace)
    check_moment(moment)
    check_number(ticks, 0, FAR_MOMENT)
    if ticks == 0:
        return Through(pace, (moment, 0))
    return Through(pace, (moment, 0), (moment + ticks, pace.top_of(ticks)))


def breach(history, pace, begin, end):
    """Where a history first breaks a pace, and the ticks of the rule, or None."""
    if not isinstance(history, History):
        raise BadHistory("history")
    check_pace(pace)
    check_row(begin, end)
    amounts = [history.amount_at(t) for t in range(begin, end + 1)]
    for at in range(end - begin):
        for ticks, most in pace.rules:
            if amounts[min(at + ticks, end - begin)] - amounts[at] > most:
                return begin + at, ticks
    return None


def is_moment(value):
    """Whether any value is a moment that may be passed."""
    return is_within(value, -FAR_MOMENT, FAR_MOMENT)


def check_moment(value):
    """Refuses any value that is no moment."""
    check_number(value, -FAR_MOMENT, FAR_MOMENT)


def is_point(value):
    """Whether any value is a pair of a moment and an amount."""
    if not isinstance(value, tuple) or len(value) != 2:
        return False
    return is_moment(value[0]) and is_within(value[1], -FAR_AMOUNT, FAR_AMOUNT)


def check_points(points):
    """Refuses what is no row of points with rising moments."""
    if not points:
        raise BadHistory("points")
    for at, point in enumerate(points):
        if not is_point(point) or (at > 0 and point[0] <= points[at - 1][0]):
            raise BadHistory(at)
    if len(points) > MOST_POINTS:
        raise TooMany("points", MOST_POINTS)


def check_stretch(a, b):
    """Refuses what is no moment, and what is none from there on."""
    check_moment(a)
    check_number(b, a, FAR_MOMENT)


def check_row(a, b):
    """Refuses what is no stretch of so many ticks at most."""
    check_stretch(a, b)
    if b - a > MOST_TICKS:
        raise TooMany("ticks", MOST_TICKS)


def amount_of(history, t):
    """The amount at a moment."""
    check_moment(t)
    return history.amount_at(t)


def tick_of(history, t):
    """What comes in one tick."""
    check_moment(t)
    return history.amount_at(t + 1) - history.amount_at(t)


def grown_of(history, a, b):
    """What comes from a to b."""
    check_stretch(a, b)
    return history.amount_at(b) - history.amount_at(a)


def row_of(history, a, b):
    """What comes in each tick from a to b."""
    check_row(a, b)
    amounts = [history.amount_at(t) for t in range(a, b + 1)]
    return tuple([after - ahead for ahead, after in zip(amounts, amounts[1:])])


def moved_of(history, k):
    """The history so much later."""
    check_moment(k)
    return history.moved_by(k)
