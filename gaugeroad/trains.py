"""Trains: parts in a row, from the units that come to the counts."""

from math import gcd

from gaugeroad.errors import BadTrain, TooMany
from gaugeroad.growths import Growth, greatest_up_to, least_above
from gaugeroad.kinds import check_number
from gaugeroad.parts import MOST_NUMBER, MOST_TEETH, MOST_TURN, Gear, Part, Slips, Wheel
from gaugeroad.ratios import Ratio
from gaugeroad.words import Words

FAR = 10 ** 40
MOST_PARTS = 6


class Train:
    """A row of parts; without any each unit is a count."""

    def __init__(self, *parts):
        for at, part in enumerate(parts):
            if not isinstance(part, Part) or (at > 0 and isinstance(part, Wheel)):
                raise BadTrain(at)
        if len(parts) > MOST_PARTS:
            raise TooMany("parts", MOST_PARTS)
        self.parts = parts

    @classmethod
    def read(cls, text):
        """The train with this text."""
        words = Words(text)
        told = take_parts(words)
        words.finish()
        return train_of(told)

    @property
    def least_growth(self):
        """The fewest counts, for each amount."""
        growth = Growth.ramp(1)
        for part in self.parts:
            growth = part.least_growth.after(growth)
        return growth

    @property
    def most_growth(self):
        """The most counts, for each amount."""
        growth = Growth.ramp(1)
        for part in self.parts:
            growth = part.most_growth.after(growth)
        return growth

    @property
    def worth(self):
        """How many units a count stands for."""
        worth = Ratio(1)
        for part in self.parts:
            worth = worth * part.worth
        return worth

    @property
    def is_exact(self):
        """Whether nothing can slip."""
        return not any([isinstance(part, Slips) for part in self.parts])

    @property
    def is_fine(self):
        """Whether no gear lets out more than comes in."""
        return all([part.up <= part.down for part in self.parts if isinstance(part, Gear)])

    def least(self, d):
        """The fewest counts while d units come."""
        check_number(d, 0, FAR)
        return self.fewest_of(d)

    def most(self, d):
        """The most counts while d units come."""
        check_number(d, 0, FAR)
        return self.most_of(d)

    def first(self, n):
        """The least amount with which so many counts can come."""
        check_number(n, 0, FAR)
        return self.least_for(n)

    def last(self, n):
        """The greatest amount with which no more counts need come."""
        check_number(n, 0, FAR)
        for part in self.parts[::-1]:
            n = greatest_up_to(part.least_growth, n)
        return n

    def least_for(self, n):
        """The least amount with which any number of counts can come."""
        for part in self.parts[::-1]:
            n = least_above(part.most_growth, n - 1)
        return n

    def fewest_of(self, d):
        """The fewest counts while any number of units come."""
        for part in self.parts:
            d = part.fewest_of(d)
        return d

    def most_of(self, d):
        """The most counts while any number of units come."""
        for part in self.parts:
            d = part.most_of(d)
        return d

    def __add__(self, other):
        if isinstance(other, Part):
            return Train(*self.parts, other)
        if not isinstance(other, Train):
            raise BadTrain("other")
        return Train(*self.parts, *other.parts)

    def __len__(self):
        return len(self.parts)

    def __iter__(self):
        return iter(self.parts)

    def __contains__(self, value):
        return value in self.parts

    def __getitem__(self, at):
        found = self.parts[at]
        return Train(*found) if isinstance(found, tuple) else found

    def __eq__(self, other):
        return isinstance(other, Train) and self.parts == other.parts

    def __str__(self):
        if not self.parts:
            return "-"
        return " , ".join([str(part) for part in self.parts])


def check_train(train, at):
    """Refuses any value that is no train, told by at."""
    if not isinstance(train, Train):
        raise BadTrain(at)


def take_parts(words):
    """The pairs of word and numbers that a text tells of its parts."""
    if words.ahead() == "-":
        words.take("-")
        return []
    told = [take_part(words, ("wheel", "gear", "slips"))]
    while not words.take_end_or(",", len(told) < MOST_PARTS):
        told.append(take_part(words, ("gear", "slips")))
    return told


def train_of(told):
    """The train of the parts that a text told."""
    parts = [part_of(word, numbers) for word, numbers in told]
    return Train(*parts)


def take_part(words, kinds):
    """The word of a part and its numbers."""
    kind = words.take(*kinds)
    if kind == "wheel":
        return kind, take_teeth(words)
    if kind == "gear":
        return kind, take_gear(words)
    of = words.take_number(2, MOST_NUMBER)
    return kind, [of, words.take_number(1, of - 1)]


def take_gear(words):
    """Both numbers of a gear, in lowest terms."""
    up = words.take_number(1, MOST_NUMBER)
    return [up, words.take_among([k for k in range(1, MOST_NUMBER + 1) if gcd(up, k) == 1])]


def take_teeth(words):
    """The lengths of teeth up to the end of their part."""
    teeth = [words.take_number(1, MOST_TURN)]
    while len(teeth) < MOST_TEETH and not words.is_done() and words.ahead() != ",":
        teeth.append(words.take_number(1, MOST_TURN))
    return teeth


def part_of(kind, numbers):
    """The part that a word and numbers tell."""
    if kind == "wheel":
        return Wheel(*numbers)
    if kind == "gear":
        return Gear(*numbers)
    return Slips(numbers[0], lost=numbers[1])
