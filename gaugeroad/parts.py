"""The parts of trains: wheels with unequal teeth, gears that keep rests, slips."""

from math import gcd

from gaugeroad.errors import BadPart
from gaugeroad.growths import Growth
from gaugeroad.kinds import check_number, is_within
from gaugeroad.marks import Marks
from gaugeroad.ratios import Ratio

FAR = 10 ** 40
MOST_SHIFT = 10 ** 30
MOST_TEETH = 40
MOST_TURN = 400
MOST_NUMBER = 60


class Part:
    """What lets out something of what comes in; each kind is a class below."""


class Wheel(Part):
    """Teeth of their own lengths: a count at the end of each."""

    MOST = 400

    def __init__(self, *teeth):
        fits = [is_within(tooth, 1, MOST_TURN) for tooth in teeth]
        if not 1 <= len(fits) <= MOST_TEETH or not all(fits):
            raise BadPart("teeth")
        if sum(teeth) > MOST_TURN:
            raise BadPart("turn")
        self.teeth = teeth
        self.turn = sum(teeth)
        self.marks = Marks.of_teeth(*teeth)
        self._least = self.marks.least_growth
        self._most = self.marks.most_growth

    @classmethod
    def even(cls, many, length):
        """The wheel with so many teeth of one length."""
        if not is_within(many, 1, MOST_TEETH) or not is_within(length, 1, MOST_TURN):
            raise BadPart("teeth")
        teeth = [length for _ in range(many)]
        return Wheel(*teeth)

    @property
    def least_growth(self):
        """The fewest counts, for each amount."""
        return self._least

    @property
    def most_growth(self):
        """The most counts, for each amount."""
        return self._most

    @property
    def worth(self):
        """How many units a count stands for."""
        return Ratio(self.turn, len(self.teeth))

    def least(self, n):
        """The fewest counts while n units come."""
        check_number(n, 0, FAR)
        return self.fewest_of(n)

    def most(self, n):
        """The most counts while n units come."""
        check_number(n, 0, FAR)
        return self.most_of(n)

    def is_beginning(self, value):
        """Whether any value tells how many units behind its last tooth a wheel can stand."""
        return is_within(value, 0, self.turn - 1)

    def fewest_of(self, n):
        """The fewest counts while any number of units come."""
        return self._least.value_at(n)

    def most_of(self, n):
        """The most counts while any number of units come."""
        return self._most.value_at(n)

    def let_out(self, beginning, n):
        """How many counts come from this beginning on, while any n units come."""
        return self.marks.passed_in(beginning, beginning + n)

    def stands_after(self, beginning, n):
        """The beginning that is reached behind n units."""
        return (beginning + n) % self.turn

    def best_beginning(self, n):
        """One from which the most counts come while n units come."""
        beginnings = [(mark - 1) % self.turn for mark in self.marks]
        counts = [self.let_out(beginning, n) for beginning in beginnings]
        return beginnings[counts.index(max(counts))]

    def worst_beginning(self, n):
        """One from which the fewest counts come while n units come."""
        beginnings = list(self.marks)
        counts = [self.let_out(beginning, n) for beginning in beginnings]
        return beginnings[counts.index(min(counts))]

    def __len__(self):
        return len(self.teeth)

    def __iter__(self):
        return iter(self.teeth)

    def __invert__(self):
        teeth = self.teeth[::-1]
        return Wheel(*teeth)

    def __lshift__(self, other):
        check_number(other, 0, MOST_SHIFT)
        first = other % len(self.teeth)
        teeth = self.teeth[first:] + self.teeth[:first]
        return Wheel(*teeth)

    def __eq__(self, other):
        return isinstance(other, Wheel) and self.teeth == other.teeth

    def __str__(self):
        return " ".join(["wheel", *[str(tooth) for tooth in self.teeth]])


class Gear(Part):
    """Lets out up for each down that come in, and keeps the rest."""

    def __init__(self, up, down):
        if not is_within(up, 1, MOST_NUMBER):
            raise BadPart("up")
        if not is_within(down, 1, MOST_NUMBER):
            raise BadPart("down")
        shared = gcd(up, down)
        self.up = up // shared
        self.down = down // shared

    @property
    def least_growth(self):
        """The fewest that are let out, for each number that come in."""
        return Growth.geared(self.up, self.down)

    @property
    def most_growth(self):
        """The most that are let out, for each number that come in."""
        return Growth.geared(self.up, self.down, self.down - 1)

    @property
    def worth(self):
        """How many that come in one that is let out stands for."""
        return Ratio(self.down, self.up)

    def least(self, n):
        """The fewest that are let out while n come in."""
        check_number(n, 0, FAR)
        return self.fewest_of(n)

    def most(self, n):
        """The most that are let out while n come in."""
        check_number(n, 0, FAR)
        return self.most_of(n)

    def is_beginning(self, value):
        """Whether any value is a rest that the gear can keep."""
        return is_within(value, 0, self.down - 1)

    def fewest_of(self, n):
        """The fewest that are let out while any number come in."""
        return self.let_out(0, n)

    def most_of(self, n):
        """The most that are let out while any number come in."""
        return self.let_out(self.down - 1, n)

    def let_out(self, beginning, n):
        """How many are let out from this rest on, while any n come in."""
        return (self.up * n + beginning) // self.down

    def stands_after(self, beginning, n):
        """The rest behind n that came in."""
        return (self.up * n + beginning) % self.down

    def best_beginning(self, _):
        """The rest with which the most are let out."""
        return self.down - 1

    def worst_beginning(self, _):
        """The rest with which the fewest are let out."""
        return 0

    def __floordiv__(self, other):
        check_number(other, 1, MOST_NUMBER)
        down = self.down * other
        shared = gcd(self.up, down)
        return Gear(self.up // shared, down // shared)

    def __eq__(self, other):
        return isinstance(other, Gear) and self.up == other.up and self.down == other.down

    def __str__(self):
        return f"gear {self.up} {self.down}"


class Divider(Gear):
    """Lets out one for each so many that come in."""

    def __init__(self, by):
        if not is_within(by, 1, MOST_NUMBER):
            raise BadPart("by")
        super().__init__(1, by)


class Slips(Part):
    """Of any so many that come in one behind the other some may be lost."""

    def __init__(self, of, *, lost=1):
        if not is_within(of, 2, MOST_NUMBER):
            raise BadPart("of")
        if not is_within(lost, 1, of - 1):
            raise BadPart("lost")
        self.of = of
        self.lost = lost

    @property
    def least_growth(self):
        """The fewest that are let out, for each number that come in."""
        return Growth((0,), [0 if n < self.lost else 1 for n in range(self.of)])

    @property
    def most_growth(self):
        """The most that are let out: all that come in."""
        return Growth.ramp(1)

    @property
    def worth(self):
        """What is let out counts as it came in."""
        return Ratio(1)

    def least(self, n):
        """The fewest that are let out while n come in."""
        check_number(n, 0, FAR)
        return self.fewest_of(n)

    def most(self, n):
        """The most that are let out while n come in."""
        check_number(n, 0, FAR)
        return self.most_of(n)

    def is_beginning(self, value):
        """Whether any value is a row of losses that the slips let."""
        return isinstance(value, Marks) and value.most_in(self.of) <= self.lost

    def fewest_of(self, n):
        """The fewest that are let out while any number come in."""
        return n - n // self.of * self.lost - min(n % self.of, self.lost)

    def most_of(self, n):
        """The most that are let out while any number come in."""
        return n

    def let_out(self, beginning, n):
        """How many are let out of the first n, of which the marks are lost."""
        return n - beginning.passed_in(-1, n - 1)

    def stands_after(self, beginning, n):
        """The losses, counted on from behind the first n."""
        return beginning.turned_by(n)

    def best_beginning(self, _):
        """A row without losses."""
        return Marks(1)

    def worst_beginning(self, _):
        """The row with all losses as soon as they can be."""
        places = list(range(self.lost))
        return Marks(self.of, *places)

    def __eq__(self, other):
        return isinstance(other, Slips) and self.of == other.of and self.lost == other.lost

    def __str__(self):
        return f"slips {self.of} {self.lost}"
