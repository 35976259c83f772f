"""Endless rows of places with and without a mark."""

from gaugeroad.errors import BadMarks, BadText, Nothing
from gaugeroad.growths import Growth
from gaugeroad.kinds import check_number, is_whole, is_within
from gaugeroad.rounds import ends_of, least_turn, shortest_round
from gaugeroad.words import Words

FAR = 10 ** 40
MOST_TURN = 10 ** 12
MOST_PERIOD = 3000
MOST_SIGNS = 5000


class Marks:
    """The marks that come again and again, in their normal form."""

    def __init__(self, period, *places):
        if not is_within(period, 1, MOST_PERIOD):
            raise BadMarks("period")
        if not are_places(places, period):
            raise BadMarks("places")
        self.period = least_period(period, places)
        self.places = tuple(sorted([place for place in places if place < self.period]))

    @classmethod
    def of_teeth(cls, *teeth):
        """Marks at the ends of teeth that lie one behind the other."""
        fits = [is_within(tooth, 1, MOST_PERIOD) for tooth in teeth]
        if not fits or not all(fits) or sum(teeth) > MOST_PERIOD:
            raise BadMarks("teeth")
        turn = sum(teeth)
        places = [end % turn for end in ends_of(teeth)]
        return Marks(turn, *places)

    @classmethod
    def read(cls, text):
        """The marks with this text."""
        words = Words(text)
        period, places = take_marks(words)
        words.finish()
        marks = Marks(period, *places)
        if marks.period != period:
            raise BadText(0, 0)
        return marks

    @property
    def least_growth(self):
        """The fewest marks that are passed, for each distance."""
        return growth_of_steps(self.period, longest_spans(self))

    @property
    def most_growth(self):
        """The most marks that are passed, for each distance."""
        # What a longest span leaves of a period is a shortest one of the other marks.
        return growth_of_steps(self.period, [self.period + 1 - span for span in longest_spans(self)])

    def passed(self, low, high):
        """How many marks lie behind low, up to high."""
        check_number(low, -FAR, FAR)
        check_number(high, low, FAR)
        return self.passed_in(low, high)

    def least(self, d):
        """The fewest marks that are passed over this distance."""
        check_number(d, 0, FAR)
        return self.fewest_in(d)

    def most(self, d):
        """The most marks that are passed over this distance."""
        check_number(d, 0, FAR)
        return self.most_in(d)

    def nth(self, n):
        """The mark from 0 on that has so many marks ahead of it."""
        check_number(n, 0, FAR)
        if not self.places:
            raise Nothing()
        rounds, rest = divmod(n, len(self.places))
        return rounds * self.period + self.places[rest]

    def signs(self, begin, many):
        """So many signs, 1 for a mark and 0 for none, behind begin."""
        check_number(begin, -FAR, FAR)
        check_number(many, 0, MOST_SIGNS)
        inside = set(self.places)
        return "".join(["1" if (begin + 1 + k) % self.period in inside else "0" for k in range(many)])

    def turned(self):
        """The turn with the least tuple of places."""
        if not self.places:
            return self
        gaps = gaps_of(self)
        first = least_turn(gaps)
        # All gaps together lead back to the first place, which is 0.
        places = [end % self.period for end in ends_of(gaps[first:] + gaps[:first])]
        return Marks(self.period, *places)

    def alike(self, other):
        """Whether other is a turn of this one."""
        if not isinstance(other, Marks):
            raise BadMarks("other")
        return self.turned() == other.turned()

    def passed_in(self, low, high):
        """How many marks lie behind low, up to high, whatever they are."""
        return marks_up_to(self, high) - marks_up_to(self, low)

    def fewest_in(self, d):
        """The fewest marks that are passed over any distance."""
        rounds, rest = divmod(d, self.period)
        return rounds * len(self.places) + min(passed_from_each(self, rest))

    def most_in(self, d):
        """The most marks that are passed over any distance."""
        rounds, rest = divmod(d, self.period)
        return rounds * len(self.places) + max(passed_from_each(self, rest))

    def turned_by(self, distance):
        """The marks, seen from so far on, whatever the distance."""
        places = [(place - distance) % self.period for place in self.places]
        return Marks(self.period, *places)

    def __len__(self):
        return len(self.places)

    def __iter__(self):
        return iter(self.places)

    def __contains__(self, value):
        return is_whole(value) and value % self.period in self.places

    def __invert__(self):
        places = [-place % self.period for place in self.places]
        return Marks(self.period, *places)

    def __lshift__(self, other):
        check_number(other, -MOST_TURN, MOST_TURN)
        return self.turned_by(other)

    def __eq__(self, other):
        return isinstance(other, Marks) and self.period == other.period and self.places == other.places

    def __str__(self):
        if not self.places:
            return f"{self.period} at -"
        return " ".join([str(self.period), "at", *[str(place) for place in self.places]])


def are_places(places, period):
    """Whether places are integers below the period, each once."""
    if not all([is_within(place, 0, period - 1) for place in places]):
        return False
    return len(set(places)) == len(places)


def least_period(period, places):
    """The shortest period with which the places come again."""
    inside = set(places)
    signs = "".join(["1" if place in inside else "0" for place in range(period)])
    return len(shortest_round(signs))


def take_marks(words):
    """The period and the ascending places that the words of marks tell."""
    period = words.take_number(1, MOST_PERIOD)
    words.take("at")
    return period, take_places(words, period)


def take_places(words, period):
    """The ascending places up to the end or to a stroke, or a dash where there is none."""
    if words.ahead() == "-":
        words.take("-")
        return []
    places = [words.take_number(0, period - 1)]
    while not (words.is_done() or words.ahead() == "/"):
        places.append(words.take_number(places[-1] + 1, period - 1))
    return places


def marks_up_to(marks, high):
    """How many marks lie from 0 up to high, less those from there up to -1 if it is below 0."""
    rounds, rest = divmod(high, marks.period)
    return rounds * len(marks.places) + len([place for place in marks.places if place <= rest])


def passed_from_each(marks, distance):
    """How many marks a distance below the period passes, from each place of a period."""
    inside = set(marks.places)
    counts = [0]
    for place in range(1, 2 * marks.period):
        counts.append(counts[-1] + (1 if place % marks.period in inside else 0))
    return [counts[place + distance] - counts[place] for place in range(marks.period)]


def gaps_of(marks):
    """How far the next mark is from each place, in order."""
    first = marks.places[0] + marks.period
    return [after - place for place, after in zip(marks.places, [*marks.places[1:], first])]


def longest_spans(marks):
    """The greatest distance from a mark to the k-th one behind it, for each k of a period."""
    rows = [*marks.places, *[place + marks.period for place in marks.places]]
    many = len(marks.places)
    return [max([far - near for near, far in zip(marks.places, rows[k:])]) for k in range(1, many + 1)]


def growth_of_steps(period, spans):
    """The growth that rises by one at each of the spans, in each period."""
    gains = [0 for _ in range(period)]
    for span in spans:
        gains[span - 1] = gains[span - 1] + 1
    return Growth((0,), gains)
