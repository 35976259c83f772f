"""Loss rules: which packets can be lost one behind the other."""

from gaugeroad.errors import BadLosses, TooMany
from gaugeroad.kinds import check_number, is_within
from gaugeroad.words import Words

MOST_PLACES = 12
MOST_PACKETS = 8
SIGNS = (".", "x")


class Losses:
    """Places, each with the place behind a kept packet and that behind a lost one, or None."""

    def __init__(self, *places):
        for at, place in enumerate(places):
            if not is_place(place, len(places)):
                raise BadLosses(at)
        if not 1 <= len(places) <= MOST_PLACES:
            raise BadLosses("places")
        for at in range(len(places)):
            if not any([at in place for place in places]):
                raise BadLosses(at)
        self.places = tuple([tuple(place) for place in places])

    @classmethod
    def none(cls):
        """No packet is lost."""
        return Losses((0, None))

    @classmethod
    def runs(cls, most, apart):
        """So many packets in a row can be lost, with so many kept ones between two rows."""
        check_number(most, 1, MOST_PACKETS)
        check_number(apart, 1, MOST_PACKETS)
        check_places(most + apart)
        # Ahead of place apart packets are kept, behind it they are lost.
        kept = [(min(at + 1, apart - 1), apart if at == apart - 1 else None) for at in range(apart)]
        lost = [(0, apart + at + 1 if at < most - 1 else None) for at in range(most)]
        places = kept + lost
        return Losses(*places)

    @classmethod
    def share(cls, most, of):
        """Of any so many packets in a row so many can be lost."""
        check_number(most, 0, MOST_PACKETS)
        check_number(of, 1, MOST_PACKETS)
        rows = [row for row in rows_of_signs(of - 1) if row.count("x") <= most]
        check_places(len(rows))
        places = []
        for row in rows:
            lost = None if row.count("x") == most else rows.index((row + "x")[1:])
            places.append((rows.index((row + ".")[1:]), lost))
        return Losses(*places)

    @classmethod
    def read(cls, text):
        """The loss rule with this text."""
        words = Words(text)
        places = take_places(words)
        return Losses(*places)

    def within(self, other):
        """Whether other lets each endless row that this one lets."""
        check_other(other)
        return is_within_other(self, other)

    def __contains__(self, value):
        if not isinstance(value, str) or value.count(".") + value.count("x") != len(value):
            return False
        places = tuple(range(len(self.places)))
        for sign in value:
            places = self.places_behind(places, sign)
        return places != ()

    def places_behind(self, places, sign):
        """The places to which a packet leads from some places."""
        kept = SIGNS.index(sign)
        found = set([self.places[place][kept] for place in places if self.places[place][kept] is not None])
        return tuple(sorted(found))

    def __and__(self, other):
        check_other(other)
        pairs = shared_pairs(self, other)
        check_places(len(pairs))
        places = []
        for pair in pairs:
            steps = [pair_behind(self, other, pair, kept) for kept in (0, 1)]
            places.append([None if step is None else pairs.index(step) for step in steps])
        return Losses(*places)

    def __or__(self, other):
        check_other(other)
        many = len(self.places)
        check_places(many + len(other.places))
        moved = [(kept + many, None if lost is None else lost + many) for kept, lost in other.places]
        return Losses(*self.places, *moved)

    def __eq__(self, other):
        return isinstance(other, Losses) and is_within_other(self, other) and is_within_other(other, self)

    def __str__(self):
        return " ".join(["losses", " / ".join([text_of_place(place) for place in self.places])])


def is_place(value, many):
    """Whether any value is a pair of indexes of so many places, the second one perhaps None."""
    if not isinstance(value, (list, tuple)) or len(value) != 2:
        return False
    return is_within(value[0], 0, many - 1) and (value[1] is None or is_within(value[1], 0, many - 1))


def text_of_place(place):
    """The two words of a place."""
    return f"{place[0]} -" if place[1] is None else f"{place[0]} {place[1]}"


def check_places(many):
    """Refuses more places than a loss rule can have."""
    if many > MOST_PLACES:
        raise TooMany("places", MOST_PLACES)


def check_other(other):
    """Refuses any value that is no loss rule to hold against another one."""
    if not isinstance(other, Losses):
        raise BadLosses("other")


def rows_of_signs(many):
    """All strings of so many packets."""
    rows = [""]
    for _ in range(many):
        rows = [row + sign for row in rows for sign in SIGNS]
    return rows


def is_within_other(one, other):
    """Whether other lets all that one lets."""
    everywhere = tuple(range(len(other.places)))
    ahead = [(place, everywhere) for place in range(len(one.places))]
    seen = {}
    # From each place an endless row goes on, both ways: so it is enough to hold strings against one another.
    while ahead:
        at = ahead.pop()
        if at in seen:
            continue
        seen[at] = True
        for sign, after in zip(SIGNS, one.places[at[0]]):
            others = other.places_behind(at[1], sign)
            if after is not None and others == ():
                return False
            if after is not None:
                ahead.append((after, others))
    return True


def pair_behind(one, other, pair, kept):
    """The pair of places to which a packet leads from a pair, None if one of both does not let it."""
    left, right = one.places[pair[0]][kept], other.places[pair[1]][kept]
    return None if left is None or right is None else (left, right)


def shared_pairs(one, other):
    """The pairs of places through which endless walks of both lead, both ways."""
    pairs = [(left, right) for left in range(len(one.places)) for right in range(len(other.places))]
    many = 0
    # A kept packet always leads on; but not to each pair an endless walk leads.
    while many != len(pairs):
        many = len(pairs)
        reached = [pair_behind(one, other, pair, kept) for pair in pairs for kept in (0, 1)]
        pairs = [pair for pair in pairs if pair in reached]
    return pairs


def take_places(words):
    """The places that the words of a loss rule tell."""
    words.take("losses")
    many = words.count_of("/") + 1
    places = [take_place(words, many)]
    while not words.take_end_or("/", len(places) < MOST_PLACES):
        places.append(take_place(words, many))
    return places


def take_place(words, many):
    """The place behind a kept packet and that behind a lost one."""
    kept = words.take_number(0, many - 1)
    if words.ahead() == "-":
        words.take("-")
        return kept, None
    return kept, words.take_number(0, many - 1)
