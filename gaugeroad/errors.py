"""All errors that this package raises; each keeps what it was made of."""


class RoadError(ValueError):
    """The base of all errors of this package."""


class BadNumber(RoadError):
    """A number that is none, or lies beyond its bounds."""

    def __init__(self, value):
        self.value = value


class BadRatio(RoadError):
    """A value that cannot stand in a fraction."""

    def __init__(self, value):
        self.value = value


class BadGrowth(RoadError):
    """A part of a growth, or a growth, that does not fit."""

    def __init__(self, part):
        self.part = part


class BadMarks(RoadError):
    """A part of a row of marks, or a row, that does not fit."""

    def __init__(self, part):
        self.part = part


class BadPart(RoadError):
    """A number of a part of a train that does not fit."""

    def __init__(self, part):
        self.part = part


class BadTrain(RoadError):
    """What is no train, or cannot stand in one at its place."""

    def __init__(self, at):
        self.at = at


class BadBeginning(RoadError):
    """A beginning that is none of its part, is missing or is one too many."""

    def __init__(self, at):
        self.at = at


class BadPace(RoadError):
    """What is no pace, or no rule of one at its place."""

    def __init__(self, at):
        self.at = at


class BadHistory(RoadError):
    """What is no history, or cannot stand in one at its place."""

    def __init__(self, at):
        self.at = at


class BadRegister(RoadError):
    """What shows no totals, or a number of it that does not fit."""

    def __init__(self, part):
        self.part = part


class BadReading(RoadError):
    """What is no reading."""

    def __init__(self, at):
        self.at = at


class BadHabit(RoadError):
    """What is no habit, or no state of one at its place."""

    def __init__(self, at):
        self.at = at


class BadLooks(RoadError):
    """A part of scheduled looks that does not fit."""

    def __init__(self, part):
        self.part = part


class BadLosses(RoadError):
    """A part of a loss rule, or a loss rule, that does not fit."""

    def __init__(self, part):
        self.part = part


class BadTiers(RoadError):
    """A pair of tiers that does not fit behind those ahead of it."""

    def __init__(self, at):
        self.at = at


class BadStore(RoadError):
    """A part of a store, or a look in it, that does not fit."""

    def __init__(self, part):
        self.part = part


class BadChart(RoadError):
    """A part of a chart that does not fit."""

    def __init__(self, part):
        self.part = part


class BadAlarm(RoadError):
    """A part of an alarm, or of what is asked of it, that does not fit."""

    def __init__(self, part):
        self.part = part


class BadRoad(RoadError):
    """What is no road, or a part of one that does not fit."""

    def __init__(self, part):
        self.part = part


class BadCase(RoadError):
    """A part of a case that is wrong."""

    def __init__(self, part):
        self.part = part


class BadPlay(RoadError):
    """A deed that a play does not let."""

    def __init__(self, part):
        self.part = part


class BadShelf(RoadError):
    """A part of a shelf that does not fit."""

    def __init__(self, part):
        self.part = part


class BadWish(RoadError):
    """A part of a wish that does not fit."""

    def __init__(self, part):
        self.part = part


class BadName(RoadError):
    """What is no name."""

    def __init__(self, value):
        self.value = value


class NoName(RoadError):
    """A name that nothing has."""

    def __init__(self, name):
        self.name = name


class NoState(RoadError):
    """An index that no state has."""

    def __init__(self, at):
        self.at = at


class NoPart(RoadError):
    """An index that no part has."""

    def __init__(self, at):
        self.at = at


class NotYet(RoadError):
    """A moment that is too young to be read."""

    def __init__(self, moment):
        self.moment = moment


class Forgotten(RoadError):
    """A moment that is too old to be read."""

    def __init__(self, moment):
        self.moment = moment


class Broken(RoadError):
    """A moment ahead of which what is counted began anew."""

    def __init__(self, moment):
        self.moment = moment


class Unlike(RoadError):
    """What is not of the kind that a question asks for."""

    def __init__(self, part):
        self.part = part


class BadLine(RoadError):
    """A word of a line that cannot stand there."""

    def __init__(self, word):
        self.word = word


class BadText(RoadError):
    """A word of a text that cannot stand there."""

    def __init__(self, line, word):
        self.line = line
        self.word = word


class TooMany(RoadError):
    """More of something than there may be."""

    def __init__(self, what, limit):
        self.what = what
        self.limit = limit


class Nothing(RoadError):
    """There is nothing to tell."""


class Endless(RoadError):
    """There is no end to tell."""
