"""What shows the total of counts: plain, wrapping, in dials or restarting."""

from math import lcm

from gaugeroad.errors import BadReading, BadRegister
from gaugeroad.kinds import check_number, is_whole, is_within
from gaugeroad.words import Words

FAR = 10 ** 40
MOST_MODULUS = 10 ** 18
MOST_PERIODS = 6
MOST_PERIOD = 1000


class Register:
    """What shows totals; each kind is a class below."""

    # The interface asks for its methods in the class itself, so each kind has them, too.

    @classmethod
    def read(cls, text):
        """What shows totals as this text says."""
        words = Words(text)
        kind, numbers = take_display(words)
        words.finish()
        return display_of(kind, numbers)

    def shows(self, total, life=0):
        """The reading of a total."""
        raise NotImplementedError("each kind shows totals by itself")

    def is_reading(self, value):
        """Whether any value is the reading of some total."""
        raise NotImplementedError("each kind knows its readings")

    def total_of(self, reading):
        """The least total with this reading."""
        raise NotImplementedError("each kind knows its readings")

    def between(self, earlier, later):
        """The fewest counts from one reading to the other, or None."""
        raise NotImplementedError("each kind knows its readings")


class Plain(Register):
    """Shows the total itself."""

    def __init__(self):
        self.modulus = None

    def shows(self, total, life=0):
        """The reading of a total."""
        check_shown(total, life)
        return total

    def is_reading(self, value):
        """Whether any value is the reading of some total."""
        return is_count(value)

    def total_of(self, reading):
        """The least total with this reading."""
        check_reading(self, reading, "reading")
        return reading

    def between(self, earlier, later):
        """The fewest counts from one reading to the other, or None."""
        check_readings(self, earlier, later)
        return later - earlier if later >= earlier else None

    def __eq__(self, other):
        return isinstance(other, Plain)

    def __str__(self):
        return "plain"


class Wrapping(Register):
    """Shows the remainder of the total by its modulus."""

    def __init__(self, modulus):
        if not is_within(modulus, 2, MOST_MODULUS):
            raise BadRegister("modulus")
        self.modulus = modulus

    def shows(self, total, life=0):
        """The reading of a total."""
        check_shown(total, life)
        return total % self.modulus

    def is_reading(self, value):
        """Whether any value is the reading of some total."""
        return is_within(value, 0, self.modulus - 1)

    def total_of(self, reading):
        """The least total with this reading."""
        check_reading(self, reading, "reading")
        return reading

    def between(self, earlier, later):
        """The fewest counts from one reading to the other."""
        check_readings(self, earlier, later)
        return (later - earlier) % self.modulus

    def __eq__(self, other):
        # Dials with this modulus show other readings.
        if not isinstance(other, Wrapping) or isinstance(other, Dials):
            return False
        return self.modulus == other.modulus

    def __str__(self):
        return f"modulo {self.modulus}"


class Dials(Wrapping):
    """Shows a remainder of the total for each of its periods."""

    def __init__(self, *periods):
        if not 1 <= len(periods) <= MOST_PERIODS:
            raise BadRegister("periods")
        for at, period in enumerate(periods):
            if not is_within(period, 2, MOST_PERIOD):
                raise BadRegister(at)
        together = 1
        for period in periods:
            together = lcm(together, period)
        super().__init__(together)
        self.periods = periods

    def shows(self, total, life=0):
        """The reading of a total."""
        check_shown(total, life)
        return tuple([total % period for period in self.periods])

    def is_reading(self, value):
        """Whether any value is the reading of some total."""
        if not isinstance(value, tuple) or len(value) != len(self.periods):
            return False
        if not all([is_within(rest, 0, period - 1) for rest, period in zip(value, self.periods)]):
            return False
        return least_total(self.periods, value) is not None

    def total_of(self, reading):
        """The least total with this reading."""
        check_reading(self, reading, "reading")
        return least_total(self.periods, reading)

    def between(self, earlier, later):
        """The fewest counts from one reading to the other."""
        check_readings(self, earlier, later)
        return (least_total(self.periods, later) - least_total(self.periods, earlier)) % self.modulus

    def __eq__(self, other):
        return isinstance(other, Dials) and self.periods == other.periods

    def __str__(self):
        return " ".join(["dials", *[str(period) for period in self.periods]])


class Restarting(Register):
    """Shows how often it began anew, and the counts since."""

    def __init__(self):
        self.modulus = None

    def shows(self, total, life=0):
        """The reading of a total since it began anew."""
        check_shown(total, life)
        return life, total

    def is_reading(self, value):
        """Whether any value is the reading of some total."""
        if not isinstance(value, tuple) or len(value) != 2:
            return False
        return is_count(value[0]) and is_count(value[1])

    def total_of(self, reading):
        """The total with this reading, since it began anew."""
        check_reading(self, reading, "reading")
        return reading[1]

    def between(self, earlier, later):
        """The fewest counts from one reading to the other, or None."""
        check_readings(self, earlier, later)
        if earlier[0] != later[0] or earlier[1] > later[1]:
            return None
        return later[1] - earlier[1]

    def __eq__(self, other):
        return isinstance(other, Restarting)

    def __str__(self):
        return "restarting"


def read_back(display, readings):
    """What came up to each reading, piece by piece."""
    check_display(display)
    if not isinstance(readings, (list, tuple)):
        raise BadReading("readings")
    for at, reading in enumerate(readings):
        check_reading(display, reading, at)
    pieces = []
    for at, reading in enumerate(readings):
        counts = display.between(readings[at - 1], reading) if at > 0 else None
        if counts is None:
            pieces.append([0])
        else:
            pieces[-1].append(pieces[-1][-1] + counts)
    return tuple([tuple(piece) for piece in pieces])


def check_display(display):
    """Refuses any value that shows no totals."""
    if not isinstance(display, Register):
        raise BadRegister("display")


def check_shown(total, life):
    """Refuses what is no total, and what is no life."""
    check_number(total, 0, FAR)
    check_number(life, 0, FAR)


def check_reading(display, reading, at):
    """Refuses any value that is no reading, told by at."""
    if not display.is_reading(reading):
        raise BadReading(at)


def check_readings(display, earlier, later):
    """Refuses the first of both that is no reading."""
    check_reading(display, earlier, "earlier")
    check_reading(display, later, "later")


def is_count(value):
    """Whether any value is an integer from 0 on."""
    return is_whole(value) and value >= 0


def least_total(periods, rests):
    """The least total with these remainders, None if there is none."""
    total, step = 0, 1
    for period, rest in zip(periods, rests):
        # All totals with the remainders so far are step apart.
        fits = [total + k * step for k in range(period) if (total + k * step) % period == rest]
        if not fits:
            return None
        total = fits[0]
        step = lcm(step, period)
    return total


def take_display(words):
    """The word of a kind, and the numbers behind it."""
    kind = words.take("plain", "modulo", "restarting", "dials")
    return kind, take_numbers(words, kind)


def display_of(kind, numbers):
    """What shows totals as a word and numbers tell."""
    if kind == "plain":
        return Plain()
    if kind == "restarting":
        return Restarting()
    return Wrapping(*numbers) if kind == "modulo" else Dials(*numbers)


def take_numbers(words, kind):
    """The numbers behind the word of a kind."""
    if kind == "modulo":
        return [words.take_number(2, MOST_MODULUS)]
    if kind != "dials":
        return []
    periods = [words.take_number(2, MOST_PERIOD)]
    while len(periods) < MOST_PERIODS and not words.is_done():
        periods.append(words.take_number(2, MOST_PERIOD))
    return periods
