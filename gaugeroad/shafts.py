"""Trains at work: from their beginnings on, amount by amount."""

from gaugeroad.errors import BadBeginning
from gaugeroad.kinds import check_number
from gaugeroad.trains import check_train

MOST_AMOUNT = 10 ** 30


class Shaft:
    """A train that began somewhere, and the units that came since."""

    def __init__(self, train, *beginnings):
        check_train(train, "train")
        for at, (part, beginning) in enumerate(zip(train.parts, beginnings)):
            if not part.is_beginning(beginning):
                raise BadBeginning(at)
        if len(beginnings) != len(train.parts):
            raise BadBeginning(min(len(beginnings), len(train.parts)))
        self.train = train
        self._beginnings = beginnings
        self._units = 0

    @property
    def total(self):
        """All counts so far."""
        return counts_from(self.train, self._beginnings, self._units)

    @property
    def moved(self):
        """All units so far."""
        return self._units

    @property
    def stands(self):
        """The beginnings of a shaft that goes on as this one does."""
        many = self._units
        found = []
        for part, beginning in zip(self.train.parts, self._beginnings):
            found.append(part.stands_after(beginning, many))
            many = part.let_out(beginning, many)
        return tuple(found)

    def move(self, amount):
        """Lets so many units come, and tells the counts that they bring."""
        check_number(amount, 0, MOST_AMOUNT)
        ahead = self.total
        self._units = self._units + amount
        return self.total - ahead

    def twin(self):
        """An equal shaft that goes its own way."""
        other = Shaft(self.train, *self._beginnings)
        other._units = self._units
        return other

    def __eq__(self, other):
        if not isinstance(other, Shaft) or self.train != other.train:
            return False
        return (self.stands, self.total, self.moved) == (other.stands, other.total, other.moved)


def counts_from(train, beginnings, units):
    """The counts of a train from right beginnings on, while any number of units come."""
    many = units
    for part, beginning in zip(train.parts, beginnings):
        many = part.let_out(beginning, many)
    return many


def are_beginnings(train, value):
    """Whether any value is a tuple of right beginnings of a train."""
    if not isinstance(value, tuple) or len(value) != len(train.parts):
        return False
    return all([part.is_beginning(beginning) for part, beginning in zip(train.parts, value)])


def best_beginnings(train, d):
    """Beginnings with which a shaft moves the most counts by this amount."""
    check_train(train, "train")
    check_number(d, 0, MOST_AMOUNT)
    found = []
    for part in train.parts:
        found.append(part.best_beginning(d))
        d = part.most_of(d)
    return tuple(found)


def worst_beginnings(train, d):
    """Beginnings with which a shaft moves the fewest counts by this amount."""
    check_train(train, "train")
    check_number(d, 0, MOST_AMOUNT)
    found = []
    for part in train.parts:
        found.append(part.worst_beginning(d))
        d = part.fewest_of(d)
    return tuple(found)
