"""Growths: a head of values, and gains that come again and again."""

from math import gcd, lcm

from gaugeroad.errors import BadGrowth, BadText, Endless, TooMany
from gaugeroad.kinds import check_number, is_whole
from gaugeroad.rounds import ends_of, shortest_round
from gaugeroad.words import Words

MOST_VALUES = 5000
FAR = 10 ** 40
MOST_TIMES = 10 ** 12


class Growth:
    """An integer for each number from 0 on, in its normal form."""

    MOST = 5000

    def __init__(self, head, gains=(0,)):
        if not is_row(head):
            raise BadGrowth("head")
        if not is_row(gains):
            raise BadGrowth("gains")
        few = shortest_round(tuple(gains))
        spare = spare_values(head, few)
        turn = len(few) - spare % len(few)
        self.head = tuple(head[:len(head) - spare])
        self.gains = few[turn:] + few[:turn]
        self._sums = (0, *ends_of(self.gains))

    @staticmethod
    def constant(value):
        """The growth with this value everywhere."""
        check_number(value, -FAR, FAR)
        return Growth((value,))

    @staticmethod
    def ramp(gain, begin=0):
        """The growth that begins here and gains as much at each step."""
        check_number(gain, -FAR, FAR)
        check_number(begin, -FAR, FAR)
        return Growth((begin,), (gain,))

    @staticmethod
    def geared(up, down, rest=0):
        """The growth of what a gear lets out."""
        check_number(up, 0, MOST_TIMES)
        check_number(down, 1, MOST_VALUES)
        check_number(rest, 0, MOST_TIMES)
        return growth_of_values([(up * n + rest) // down for n in range(down + 1)], down)

    @classmethod
    def read(cls, text):
        """The growth with this text."""
        words = Words(text)
        head = take_row(words)
        words.take("then")
        gains = take_row(words)
        words.finish()
        growth = Growth(head, gains)
        if growth.head != tuple(head) or growth.gains != tuple(gains):
            raise BadText(0, 0)
        return growth

    @property
    def is_rising(self):
        """Whether no value is less than the one ahead of it."""
        steps = [self.head[n] - self.head[n - 1] for n in range(1, len(self.head))]
        return min([*steps, *self.gains]) >= 0

    def value_at(self, n):
        """The value at any integer from 0 on, however great."""
        if n < len(self.head):
            return self.head[n]
        rounds, rest = divmod(n - len(self.head) + 1, len(self.gains))
        return self.head[-1] + rounds * self._sums[-1] + self._sums[rest]

    def row(self, begin, end):
        """The values at begin to end - 1."""
        check_number(begin, 0, FAR)
        check_number(end, begin, begin + MOST_VALUES)
        return tuple([self.value_at(n) for n in range(begin, end)])

    def after(self, other):
        """The value of this one at the value of other, for each number."""
        if not isinstance(other, Growth) or other.head[0] < 0 or not other.is_rising:
            raise BadGrowth("other")
        many = count_after(self, other)
        reached = least_above(other, len(self.head) - 2) if any(other.gains) else 0
        first = max(len(other.head) - 1, reached)
        return growth_of_values([self.value_at(other.value_at(n)) for n in range(first + many + 1)], many)

    def passes(self, other):
        """The least number at which this one is above other, or None."""
        return least_above(self - other, 0)

    def at_most(self, other):
        """Whether this one is nowhere above other."""
        return least_above(self - other, 0) is None

    def first_above(self, k):
        """The least number at which the value is above k, or None."""
        check_number(k, -FAR, FAR)
        return least_above(self, k)

    def last_up_to(self, k):
        """The greatest number at which the value is at most k, or None."""
        check_number(k, -FAR, FAR)
        return greatest_up_to(self, k)

    def __call__(self, n):
        check_number(n, 0, FAR)
        return self.value_at(n)

    def __getitem__(self, n):
        check_number(n, 0, FAR)
        return self.value_at(n)

    def __iter__(self):
        raise TypeError("a growth has no end")

    def __eq__(self, other):
        return isinstance(other, Growth) and self.head == other.head and self.gains == other.gains

    def __str__(self):
        return " ".join([*[str(value) for value in self.head], "then", *[str(gain) for gain in self.gains]])

    def __add__(self, other):
        many = shared_round(self, other)
        first = max(len(self.head), len(other.head))
        return growth_of_values([self.value_at(n) + other.value_at(n) for n in range(first + many)], many)

    def __sub__(self, other):
        many = shared_round(self, other)
        first = max(len(self.head), len(other.head))
        return growth_of_values([self.value_at(n) - other.value_at(n) for n in range(first + many)], many)

    def __or__(self, other):
        many = shared_round(self, other)
        first = settled_from(self, other)
        return growth_of_values([max(self.value_at(n), other.value_at(n)) for n in range(first + many)], many)

    def __and__(self, other):
        many = shared_round(self, other)
        first = settled_from(self, other)
        return growth_of_values([min(self.value_at(n), other.value_at(n)) for n in range(first + many)], many)

    def __neg__(self):
        return multiplied(self, -1)

    def __mul__(self, other):
        check_number(other, -MOST_TIMES, MOST_TIMES)
        return multiplied(self, other)

    def __rmul__(self, other):
        check_number(other, -MOST_TIMES, MOST_TIMES)
        return multiplied(self, other)


def is_row(values):
    """Whether any value can be a head, or gains."""
    if not isinstance(values, (list, tuple)) or not 1 <= len(values) <= MOST_VALUES:
        return False
    return all([is_whole(value) for value in values])


def take_row(words):
    """The integers up to the word then, or up to the end."""
    row = [words.take_integer()]
    while len(row) < MOST_VALUES and not words.is_done() and words.ahead() != "then":
        row.append(words.take_integer())
    return row


def spare_values(head, gains):
    """How many values at the end of the head follow from the gains, one being kept."""
    spare = 0
    while spare < len(head) - 1:
        last = len(head) - 1 - spare
        if head[last] - head[last - 1] != gains[-1 - spare % len(gains)]:
            return spare
        spare += 1
    return spare


def growth_of_values(values, many):
    """The growth with these values, whose last ones, so many, tell the gains."""
    begin = len(values) - many
    return Growth(values[:begin], [values[n] - values[n - 1] for n in range(begin, len(values))])


def multiplied(growth, times):
    """The growth with each value so many times."""
    return Growth([times * value for value in growth.head], [times * gain for gain in growth.gains])


def shared_round(one, other):
    """Behind how many steps the gains of both come again together."""
    if not isinstance(other, Growth):
        raise BadGrowth("other")
    many = lcm(len(one.gains), len(other.gains))
    if many > MOST_VALUES:
        raise TooMany("values", MOST_VALUES)
    return many


def settled_from(one, other):
    """How many values of the greater or lesser of both lie ahead of steady gains."""
    ahead = one - other
    rise = sum(ahead.gains)
    first = max(len(one.head), len(other.head))
    if rise == 0:
        return first
    # The one that gains less leads for the last time here, perhaps far out.
    last = greatest_up_to(ahead if rise > 0 else -ahead, -1)
    if last is not None and last + 2 > first:
        first = last + 2
    if first > MOST_VALUES:
        raise TooMany("values", MOST_VALUES)
    return first


def count_after(one, other):
    """How many gains the value of one at the value of other has."""
    if not any(other.gains):
        return 1
    many = len(one.gains)
    count = len(other.gains) * (many // gcd(many, sum(other.gains)))
    if count > MOST_VALUES or other.value_at(MOST_VALUES - 1) < len(one.head) - 1:
        raise TooMany("values", MOST_VALUES)
    return count


def least_above(growth, k):
    """The least number at which the value is above any integer, or None."""
    for n, value in enumerate(growth.head):
        if value > k:
            return n
    rise = sum(growth.gains)
    many = len(growth.gains)
    found = []
    for n in range(len(growth.head), len(growth.head) + many):
        value = growth.value_at(n)
        if value > k:
            found.append(n)
        elif rise > 0:
            found.append(n + ((k - value) // rise + 1) * many)
    return min(found, default=None)


def greatest_up_to(growth, k):
    """The greatest number at which the value is at most any integer, or None."""
    rise = sum(growth.gains)
    many = len(growth.gains)
    if rise < 0:
        raise Endless()
    first = len(growth.head)
    low = [n for n in range(first, first + many) if growth.value_at(n) <= k]
    if low and rise == 0:
        raise Endless()
    if low:
        return max([n + (k - growth.value_at(n)) // rise * many for n in low])
    return max([n for n in range(first) if growth.head[n] <= k], default=None)
