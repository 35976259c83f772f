"""The lines that are said to a desk, word by word."""

from gaugeroad.deeds import take_alarm, take_deed
from gaugeroad.errors import BadLine, BadText
from gaugeroad.marks import MOST_PERIOD, Marks, take_marks
from gaugeroad.partlines import PART_WORDS, part_told, take_part_told
from gaugeroad.player import FAR_BEGIN
from gaugeroad.trains import take_parts, train_of
from gaugeroad.words import Words

FAR = 10 ** 30
MOST_LEAD = 999
OTHER_WORDS = ("alarm", "begin", "do", "undo", "show", "log", "above", "below", "aged", "plain", "from", "case", "sure",
               "modulus", "longest", "covers", "heard", "level", "tells", "surely", "rows", "alike", "now", "column",
               "rise", "gap", "known", "went")
# What stands behind a word, if anything: a side, and numbers from 0 or from 1 on.
WORDS_BEHIND = {"above": ("from 0",), "below": ("from 0",), "aged": ("side", "from 0", "from 0"), "plain": ("side",),
                "from": ("side",), "case": ("side", "from 0"), "covers": ("from 1",), "heard": ("from 1", "from 1"),
                "level": ("from 1", "from 1"), "surely": ("from 1",), "column": ("from 0",), "rise": ("from 0",),
                "gap": ("from 0",)}


def told_order(line):
    """The first word of any value that is a line, and what the words behind it tell."""
    if not isinstance(line, str):
        raise BadLine(0)
    words = Words(line)
    try:
        word = words.take(*PART_WORDS, *OTHER_WORDS)
        told = take_told(words, word)
        words.finish()
    except BadText as error:
        raise BadLine(error.word)
    # All words can stand, but a class may refuse what they tell.
    if word in PART_WORDS:
        return word, part_told(word, told)
    return word, train_of(told) if word == "alike" else told


def take_told(words, word):
    """What the words behind the first one tell."""
    if word in PART_WORDS:
        return take_part_told(words, word)
    if word == "alarm":
        return take_alarm(words)
    if word == "begin":
        return take_begin(words)
    if word == "alike":
        return take_parts(words)
    if word == "do":
        take_deed(words)
        return " ".join(words.words[1:])
    return tuple([take_sort(words, sort) for sort in WORDS_BEHIND.get(word, ())])


def take_sort(words, sort):
    """A side, or a number from 0 or from 1 on."""
    if sort == "side":
        return words.take("above", "below")
    return words.take_number(0 if sort == "from 0" else 1, FAR)


def take_begin(words):
    """The moment, the lead and the beginnings of a play."""
    moment = words.take_number(-FAR_BEGIN, FAR_BEGIN)
    lead = words.take_number(0, MOST_LEAD)
    beginnings = []
    while not words.take_end_or("/", True):
        beginnings.append(take_beginning(words))
    return moment, lead, tuple(beginnings)


def take_beginning(words):
    """Any integer, or the text of marks."""
    place = words.place
    if not words.has_number(1, MOST_PERIOD) or not words.has_behind("at"):
        return words.take_integer()
    period, places = take_marks(words)
    if not words.is_done() and words.ahead() != "/":
        words.refuse()
    marks = Marks(period, *places)
    # The text of these marks has their least period.
    if marks.period != period:
        raise BadText(words.line, place)
    return marks
