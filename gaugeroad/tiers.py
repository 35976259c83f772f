"""How borders are read as they grow old."""

from gaugeroad.errors import BadTiers, Forgotten, TooMany
from gaugeroad.kinds import check_number, is_within
from gaugeroad.words import Words

FAR = 10 ** 30
MOST_PAIRS = 6
MOST_WIDTH = 10 ** 6
MOST_KEEP = 10 ** 9


class Tiers:
    """Pairs of a width and of the age at which borders are no longer read so."""

    MOST = 6

    def __init__(self, *pairs):
        for at, pair in enumerate(pairs):
            if not fits_behind(pair, pairs[at - 1] if at > 0 else None):
                raise BadTiers(at)
        if not pairs:
            raise BadTiers(0)
        if len(pairs) > MOST_PAIRS:
            raise TooMany("pairs", MOST_PAIRS)
        self.pairs = pairs

    @classmethod
    def read(cls, text):
        """The tiers with this text."""
        words = Words(text)
        pairs = take_pairs(words)
        return Tiers(*pairs)

    @property
    def oldest(self):
        """The greatest age at which a border is read."""
        return self.pairs[-1][1] - 1

    def width_at(self, age):
        """The width with which a border of an age is read."""
        check_number(age, 0, FAR)
        if age > self.oldest:
            raise Forgotten(age)
        return self.width_of(age)

    def grid(self, moment, age):
        """The moment at which a border of an age is read."""
        check_border(self, moment, age)
        return self.grid_of(moment, age)

    def offset(self, moment, age):
        """How far a border of an age lies behind."""
        check_border(self, moment, age)
        return moment - self.grid_of(moment, age)

    def width_of(self, age):
        """The width for an age at which borders are read."""
        return [width for width, keep in self.pairs if keep > age][0]

    def grid_of(self, moment, age):
        """Where a border is read, at an age at which borders are."""
        return moment - moment % self.width_of(age)

    def __len__(self):
        return len(self.pairs)

    def __iter__(self):
        return iter(self.pairs)

    def __or__(self, other):
        return Tiers(*self.pairs, other)

    def __eq__(self, other):
        return isinstance(other, Tiers) and self.pairs == other.pairs

    def __str__(self):
        return " / ".join([f"{width} {keep}" for width, keep in self.pairs])


def fits_behind(value, ahead):
    """Whether any value is a pair that can stand behind the one ahead of it, None without one."""
    if not isinstance(value, tuple) or len(value) != 2:
        return False
    if ahead is None:
        return is_within(value[0], 1, 1) and is_within(value[1], 1, MOST_KEEP)
    if not is_within(value[0], 2 * ahead[0], MOST_WIDTH) or value[0] % ahead[0] != 0:
        return False
    return is_within(value[1], ahead[1] + 1, MOST_KEEP)


def check_border(tiers, moment, age):
    """Refuses what is no moment, no age, and an age at which no border is read."""
    check_number(moment, -FAR, FAR)
    check_number(age, 0, FAR)
    if age > tiers.oldest:
        raise Forgotten(moment)


def take_tiers(words):
    """The pairs that the words of tiers tell, None for the word none."""
    if words.ahead() == "none":
        words.take("none")
        return None
    return take_pairs(words)


def take_pairs(words):
    """The pairs that the words of tiers tell."""
    pairs = [(words.take_number(1, 1), words.take_number(1, MOST_KEEP))]
    while not words.take_end_or("/", len(pairs) < MOST_PAIRS):
        width, keep = pairs[-1]
        pairs.append((words.take_multiple(width, 2 * width, MOST_WIDTH), words.take_number(keep + 1, MOST_KEEP)))
    return pairs
