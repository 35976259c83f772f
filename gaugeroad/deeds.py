"""Deeds of a play, told by texts."""

from gaugeroad.alarms import MOST_ON, Alarm
from gaugeroad.bursts import MOST_COLUMNS
from gaugeroad.charts import MOST_SCROLL
from gaugeroad.parts import Gear
from gaugeroad.trains import take_gear
from gaugeroad.words import Words

MOST_AMOUNT = 10 ** 30


def told_deed(text):
    """The deed that a text tells."""
    words = Words(text)
    deed = take_deed(words)
    words.finish()
    return deed


def take_deed(words):
    """The deed that words tell."""
    word = words.take("tick", "look", "lost", "restart", "zoom", "scroll", "alarm")
    if word == "tick":
        return word, words.take_number(0, MOST_AMOUNT)
    if word == "scroll":
        return word, words.take_number(0, MOST_SCROLL)
    if word == "zoom":
        numbers = take_gear(words)
        return word, Gear(*numbers)
    if word == "alarm":
        return word, take_alarm(words)
    return (word,)


def take_alarm(words):
    """The alarm that words tell, or None."""
    if words.ahead() == "none":
        words.take("none")
        return None
    columns = words.take_number(1, MOST_COLUMNS)
    on = words.take_number(1, MOST_ON)
    return Alarm(columns, on, words.take_number(1, on))


def text_of_alarm(alarm):
    """The words of an alarm, or of None."""
    return "none" if alarm is None else f"{alarm.columns} {alarm.on} {alarm.off}"
