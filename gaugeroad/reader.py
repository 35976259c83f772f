"""Roads and plays, read from their pages."""

from gaugeroad.deeds import take_deed
from gaugeroad.errors import BadBeginning, BadText, RoadError
from gaugeroad.marks import Marks, take_marks
from gaugeroad.partlines import name_of_part, part_told, take_part_told
from gaugeroad.parts import Slips, Wheel
from gaugeroad.player import FAR_BEGIN, Player
from gaugeroad.roads import Road
from gaugeroad.words import Words

PART_LINES = (("train",), ("pace",), ("looks", "habit"), ("register",), ("tiers",), ("width",), ("zoom",))


class Page:
    """The lines of a text, taken one by one."""

    def __init__(self, text):
        if not isinstance(text, str):
            raise BadText(0, 0)
        self.lines = text.split("\n")
        self.many = 0

    def is_done(self):
        """Whether all lines are taken."""
        return self.many == len(self.lines)

    def next_line(self):
        """The words of the next line, which is to be there."""
        if self.is_done():
            raise BadText(self.many, 0)
        words = Words(self.lines[self.many], self.many)
        self.many += 1
        return words

    def finish(self):
        """Tells a line too many."""
        if not self.is_done():
            raise BadText(self.many, 0)


def read_road(text):
    """The road with this page."""
    page = Page(text)
    road = take_road(page, "road")
    page.finish()
    return road


def read_play(text):
    """A player with this page."""
    page = Page(text)
    road = take_road(page, "play")
    begin = take_number_line(page, "begin", -FAR_BEGIN, FAR_BEGIN)
    lead = take_number_line(page, "lead", 0, road.width - 1)
    beginnings = []
    for at, part in enumerate(road.train.parts):
        beginnings.append(take_beginning(page, at, part))
    player = Player(road, begin, *beginnings, lead=lead)
    while not page.is_done():
        take_deed_line(page, player)
    return player


def take_road(page, first):
    """The road of the next lines, the first one of which is just this word."""
    words = page.next_line()
    words.take(first)
    words.finish()
    parts = {}
    for options in PART_LINES:
        word, thing = take_part_line(page, *options)
        parts[name_of_part(word)] = thing
    try:
        return Road(**parts)
    except RoadError as error:
        raise BadText(page.many - 1, 0) from error


def take_part_line(page, *options):
    """The first word of the next line, and the part of a road that it tells."""
    words = page.next_line()
    word = words.take(*options)
    told = take_part_told(words, word)
    words.finish()
    try:
        return word, part_told(word, told)
    except RoadError as error:
        raise BadText(words.line, 0) from error


def take_number_line(page, word, low, high):
    """The number of the next line, from low to high."""
    words = page.next_line()
    words.take(word)
    number = words.take_number(low, high)
    words.finish()
    return number


def take_beginning(page, at, part):
    """The beginning that the next line tells of the part at a place."""
    words = page.next_line()
    words.take("part")
    if not isinstance(part, Slips):
        number = words.take_number(0, (part.turn if isinstance(part, Wheel) else part.down) - 1)
        words.finish()
        return number
    period, places = take_marks(words)
    words.finish()
    marks = Marks(period, *places)
    # The text of these marks has their least period.
    if marks.period != period:
        raise BadText(words.line, 1)
    if not part.is_beginning(marks):
        raise BadText(words.line, 0) from BadBeginning(at)
    return marks


def take_deed_line(page, player):
    """Does the deed that the next line tells."""
    words = page.next_line()
    take_deed(words)
    words.finish()
    try:
        player.do(page.lines[words.line])
    except RoadError as error:
        raise BadText(words.line, 0) from error
