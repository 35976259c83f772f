"""Shelves of things that roads are made of, with their prices."""

from gaugeroad.errors import BadName, BadShelf, NoName, Nothing, TooMany
from gaugeroad.habits import Habit
from gaugeroad.kinds import check_number
from gaugeroad.looks import Looks
from gaugeroad.parts import Gear
from gaugeroad.registers import Register
from gaugeroad.roads import check_road
from gaugeroad.trains import Train

KINDS = ("train", "looks", "display", "zoom")
MOST_PRICE = 10 ** 9
MOST_THINGS = 6
LONGEST_NAME = 8
LETTERS = "abcdefghijklmnopqrstuvwxyz"


class Choice:
    """One thing of each kind that has some, by their names, and what they cost together."""

    def __init__(self, names, price):
        self.names = names
        self.price = price

    def __eq__(self, other):
        return isinstance(other, Choice) and self.names == other.names and self.price == other.price


class Shelf:
    """Things of four kinds, by names, with prices; it changes."""

    def __init__(self):
        # Each thing is a tuple of its kind, name, price and itself; no tuple of them is ever changed.
        self._things = ()
        self._done = []

    def add(self, kind, name, price, thing):
        """Puts a thing on the shelf."""
        check_kind(kind)
        if not is_name(name):
            raise BadName(name)
        check_number(price, 0, MOST_PRICE)
        if not is_thing(kind, thing):
            raise BadShelf("thing")
        names = names_of(self._things, kind)
        if name in names:
            raise BadShelf("name")
        if len(names) == MOST_THINGS:
            raise TooMany("things", MOST_THINGS)
        self._done.append(("add", self._things))
        self._things = (*self._things, (kind, name, price, thing))

    def drop(self, kind, name):
        """Takes a thing from the shelf."""
        thing_of(self._things, kind, name)
        self._done.append(("drop", self._things))
        self._things = tuple([thing for thing in self._things if thing[:2] != (kind, name)])

    def undo(self):
        """Takes the last of these deeds back, and tells its word."""
        if not self._done:
            raise Nothing()
        word, self._things = self._done.pop()
        return word

    def named(self, kind):
        """The names of a kind, ascending."""
        check_kind(kind)
        return names_of(self._things, kind)

    def twin(self):
        """An equal shelf with nothing to take back."""
        other = Shelf()
        other._things = self._things
        return other

    def choices(self):
        """All choices, by price, then by names."""
        found = choices_of(self._things)
        for names, price in found:
            yield Choice(names, price)

    def road_by(self, road, names):
        """A road with the things of a choice in the place of its own."""
        check_road(road)
        if not are_names(self._things, names):
            raise BadShelf("names")
        parts = {}
        for kind, name in zip(KINDS, names):
            if name is not None:
                parts[kind] = thing_of(self._things, kind, name)[1]
        return road.changed(**parts)

    def __len__(self):
        return len(self._things)

    def __contains__(self, value):
        return is_place(self._things, value)

    def __getitem__(self, at):
        if not isinstance(at, tuple) or len(at) != 2:
            raise BadShelf("place")
        return thing_of(self._things, at[0], at[1])

    def __iter__(self):
        raise TypeError("a shelf is asked kind by kind")

    def __eq__(self, other):
        return isinstance(other, Shelf) and in_order(self._things) == in_order(other._things)


def check_kind(kind):
    """Refuses any value that is no word of a kind."""
    if kind not in KINDS:
        raise BadShelf("kind")


def is_name(value):
    """Whether any value is a name."""
    if not isinstance(value, str) or not 1 <= len(value) <= LONGEST_NAME:
        return False
    return all([letter in LETTERS for letter in value])


def is_thing(kind, thing):
    """Whether any value is a thing of a kind."""
    if kind == "train":
        return isinstance(thing, Train)
    if kind == "looks":
        return isinstance(thing, (Looks, Habit))
    return isinstance(thing, Register) if kind == "display" else isinstance(thing, Gear)


def names_of(things, kind):
    """The names of a kind, ascending."""
    return tuple(sorted([thing[1] for thing in things if thing[0] == kind]))


def is_place(things, value):
    """Whether any value is a pair of a kind and of a name of it."""
    return isinstance(value, tuple) and len(value) == 2 and value[1] in names_of(things, value[0])


def thing_of(things, kind, name):
    """The price and the thing of a kind with a name."""
    check_kind(kind)
    if not is_place(things, (kind, name)):
        raise NoName(name)
    return [thing[2:] for thing in things if thing[:2] == (kind, name)][0]


def in_order(things):
    """The things by kinds and names."""
    return [(kind, name, *thing_of(things, kind, name)) for kind in KINDS for name in names_of(things, kind)]


def names_to_choose(things, kind):
    """The names of a kind, or None alone for a kind without things."""
    names = names_of(things, kind)
    return names if names else (None,)


def choices_of(things):
    """The names and the price of each choice, by price, then by names."""
    prices = {(kind, name): price for kind, name, price, _ in things}
    rows = [()]
    for kind in KINDS:
        rows = [(*row, name) for row in rows for name in names_to_choose(things, kind)]
    found = [(row, sum([prices.get(place, 0) for place in zip(KINDS, row)])) for row in rows]
    # The rows lie in the order of their names, and sorting by price keeps it.
    return sorted(found, key=price_of)


def price_of(row):
    """The price of a choice of names."""
    return row[1]


def are_names(things, value):
    """Whether any value is the names of a choice."""
    if not isinstance(value, tuple) or len(value) != len(KINDS):
        return False
    return all([is_chosen(things, kind, name) for kind, name in zip(KINDS, value)])


def is_chosen(things, kind, name):
    """Whether any value is a name of a kind, or None for a kind without things."""
    if name is None:
        return names_of(things, kind) == ()
    return is_place(things, (kind, name))
