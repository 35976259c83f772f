"""Scheduled looks, and the habit of those that become known."""

from gaugeroad.errors import BadLooks, Endless, TooMany
from gaugeroad.habits import MOST_LENGTH, habit_of
from gaugeroad.kinds import is_within
from gaugeroad.losses import SIGNS, Losses, take_places
from gaugeroad.words import Words

MOST_PERIOD = 60
MOST_AGE = 4
MOST_STANDINGS = 60


class Looks:
    """A look each period, told by packets that also carry the totals of elder looks."""

    def __init__(self, period, *ages, late=0, losses=None):
        if not is_within(period, 1, MOST_PERIOD):
            raise BadLooks("period")
        if not are_ages(ages):
            raise BadLooks("ages")
        if not is_within(late, 0, period - 1):
            raise BadLooks("late")
        if losses is not None and not isinstance(losses, Losses):
            raise BadLooks("losses")
        rule = Losses.none() if losses is None else losses
        if (late + 1) * len(rule.places) * (1 << ages[-1]) > MOST_STANDINGS:
            raise TooMany("standings", MOST_STANDINGS)
        self.period = period
        self.ages = ages
        self.late = late
        self.losses = rule
        self.patience = ages[-1] * period + late + 1

    @classmethod
    def read(cls, text):
        """The scheduled looks with this text."""
        words = Words(text)
        told = take_looks(words)
        return looks_of(told)

    def known(self):
        """The habit of the looks that become known."""
        ways = {standing: known_behind(self, standing) for standing in standings_of(self)}
        first = sorted(set([after for standing in ways for _, after in ways[standing]]))
        many = max([steps for standing in first for steps, _ in ways[standing]])
        if many * self.period + self.late > MOST_LENGTH:
            raise TooMany("ticks", MOST_LENGTH)
        return habit_of(known_states(ways, first, self.period, self.late))

    def __eq__(self, other):
        if not isinstance(other, Looks):
            return False
        return self.told() == other.told() and self.losses == other.losses

    def told(self):
        """All but the loss rule that they were made of."""
        return self.period, self.ages, self.late

    def __str__(self):
        return f"every {self.period} late {self.late} ages {text_of_ages(self.ages)} {self.losses}"


def text_of_ages(ages):
    """The words of ages."""
    return " ".join([str(age) for age in ages])


def are_ages(ages):
    """Whether ages are ascending, from 0 on."""
    if not ages or not all([is_within(age, 0, MOST_AGE) for age in ages]):
        return False
    return ages[0] == 0 and list(ages) == sorted(set(ages))


def standings_of(looks):
    """Ahead of each look: the next packets from its own one's successor on, and the place behind them."""
    # A standing of a look is what is settled of the packets that can carry the next look.
    found = [(place, "") for place in range(len(looks.losses.places))]
    for _ in range(looks.ages[-1]):
        found = [(after, signs + sign) for place, signs in found for sign, after in packets_behind(looks, place)]
    return sorted(set(found))


def packets_behind(looks, place):
    """The packets that can come behind a place: kept or lost, and the place behind it."""
    return [(sign, after) for sign, after in zip(SIGNS, looks.losses.places[place]) if after is not None]


def known_behind(looks, standing):
    """How many looks behind a look with this standing the next known one can be, and its standing."""
    found = {}
    ahead = [standing]
    steps = 0
    while ahead:
        steps += 1
        # So many looks in a row that are not known come round.
        if steps > MOST_STANDINGS + 1:
            raise Endless()
        unknown = {}
        for place, signs in ahead:
            for sign, after in packets_behind(looks, place):
                row = signs + sign
                if any([row[age] == "." for age in looks.ages]):
                    found[(steps, (after, row[1:]))] = True
                else:
                    unknown[(after, row[1:])] = True
        ahead = list(unknown)
    return sorted(found)


def known_states(ways, standings, period, late):
    """The states of known looks: one for each standing and each number of ticks they can be late."""
    first = {standing: at * (late + 1) for at, standing in enumerate(standings)}
    states = []
    for standing in standings:
        rows = [(steps * period + more, first[after] + more) for steps, after in ways[standing]
                for more in range(late + 1)]
        for less in range(late + 1):
            states.append([(length - less, state) for length, state in rows])
    return states


def looks_of(told):
    """The scheduled looks that a text told."""
    period, ages, late, places = told
    losses = Losses(*places)
    return Looks(period, *ages, late=late, losses=losses)


def take_looks(words):
    """The period, ages, lateness and places that the words of scheduled looks tell."""
    words.take("every")
    period = words.take_number(1, MOST_PERIOD)
    words.take("late")
    late = words.take_number(0, period - 1)
    words.take("ages")
    ages = [words.take_number(0, 0)]
    while words.ahead() != "losses":
        ages.append(words.take_number(ages[-1] + 1, MOST_AGE))
    return period, ages, late, take_places(words)
