"""The cheapest things with which a road keeps a wish."""

from gaugeroad.errors import BadShelf, BadWish, RoadError
from gaugeroad.kinds import is_whole
from gaugeroad.roads import check_road
from gaugeroad.shelves import Shelf, check_kind, is_thing
from gaugeroad.verdicts import Verdict
from gaugeroad.wishes import WISHED_PARTS, Wish, lacks_part


class Cheapest(Verdict):
    """The first choice that keeps a wish, and what each choice ahead of it lacks."""

    def __init__(self, names, price, bars):
        self.names = names
        self.price = price
        self.bars = bars

    def told(self):
        """All that it was made of."""
        return self.names, self.price, self.bars

    def __eq__(self, other):
        return isinstance(other, Cheapest) and self.told() == other.told()

    def __bool__(self):
        return True


class NoChoice(Verdict):
    """No choice keeps a wish: what each one lacks."""

    def __init__(self, bars):
        self.bars = bars

    def __eq__(self, other):
        return isinstance(other, NoChoice) and self.bars == other.bars

    def __bool__(self):
        return False


def cheapest(road, shelf, wish):
    """The first choice of a shelf whose road keeps a wish."""
    check_asked(road, shelf, wish)
    bars, found = [], {}
    for choice in shelf.choices():
        part = part_lacked(road, shelf, wish, choice.names, found)
        if part is None:
            return Cheapest(choice.names, choice.price, tuple(bars))
        bars.append((choice.names, part))
    return NoChoice(tuple(bars))


def that_do(road, wish, kind, *things):
    """The indexes of the things of a kind with which a road keeps a wish."""
    check_road(road)
    check_wish(wish)
    check_kind(kind)
    for at, thing in enumerate(things):
        if not is_thing(kind, thing):
            raise BadShelf(at)
    return tuple([at for at, thing in enumerate(things) if does(road, wish, kind, thing)])


def shows_cheapest(road, shelf, wish, value):
    """Whether any value is a right answer to which choice is the cheapest."""
    found = cheapest(road, shelf, wish)
    if isinstance(found, Cheapest):
        if not isinstance(value, Cheapest) or not is_price(value.price, found.price) or value.names != found.names:
            return False
    elif not isinstance(value, NoChoice):
        return False
    return are_bars(road, shelf, wish, value.bars, found.bars)


def check_asked(road, shelf, wish):
    """Refuses the first value that is not of its kind."""
    check_road(road)
    if not isinstance(shelf, Shelf):
        raise BadShelf("shelf")
    check_wish(wish)


def check_wish(wish):
    """Refuses any value that is no wish."""
    if not isinstance(wish, Wish):
        raise BadWish("wish")


def road_or_none(road, shelf, names):
    """The road of a choice, None if it is refused."""
    try:
        return shelf.road_by(road, names)
    except RoadError:
        return None


def part_lacked(road, shelf, wish, names, found):
    """What the road of a choice lacks, None if it keeps the wish; what was found of others is kept."""
    chosen = road_or_none(road, shelf, names)
    if chosen is None:
        return "road"
    for part in WISHED_PARTS:
        # The display plays no part in the gaps, which take longest to reckon.
        place = (part, names[0], names[1], names[3], names[2] if part in ("sure", "heard") else None)
        if place not in found:
            found[place] = lacks_part(wish, chosen, part)
        if found[place]:
            return part
    return None


def does(road, wish, kind, thing):
    """Whether a road with another thing of a kind is none that is refused, and keeps a wish."""
    parts = {kind: thing}
    try:
        chosen = road.changed(**parts)
    except RoadError:
        return False
    return wish.lacks(chosen) is None


def is_price(value, price):
    """Whether any value is just this price."""
    return is_whole(value) and value == price


def are_bars(road, shelf, wish, value, bars):
    """Whether any value tells, for the same choices in their order, parts that they lack."""
    if not isinstance(value, tuple) or len(value) != len(bars):
        return False
    return all([is_bar(road, shelf, wish, told, bar) for told, bar in zip(value, bars)])


def is_bar(road, shelf, wish, value, bar):
    """Whether any value is the names of a choice, and a part that it lacks."""
    if not isinstance(value, tuple) or len(value) != 2 or value[0] != bar[0]:
        return False
    if value[1] == bar[1]:
        return True
    # A refused choice has no road that could lack a part.
    if bar[1] == "road" or value[1] not in WISHED_PARTS:
        return False
    return lacks_part(wish, shelf.road_by(road, bar[0]), value[1])
