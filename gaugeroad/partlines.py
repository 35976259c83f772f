"""Lines that tell the parts of a road, in pages and at desks."""

from gaugeroad.habits import Habit, take_states
from gaugeroad.looks import looks_of, take_looks
from gaugeroad.paces import Pace, take_rules
from gaugeroad.parts import Gear
from gaugeroad.registers import display_of, take_display
from gaugeroad.tiers import Tiers, take_tiers
from gaugeroad.trains import take_gear, take_parts, train_of

MOST_WIDTH = 1000
PART_WORDS = ("train", "pace", "looks", "habit", "register", "tiers", "width", "zoom")


def name_of_part(word):
    """The name under which Road takes the part that a line with this first word tells."""
    if word == "habit":
        return "looks"
    return "display" if word == "register" else word


def take_part_told(words, word):
    """What the words behind the first one tell of a part."""
    if word == "train":
        return take_parts(words)
    if word == "pace":
        return take_rules(words)
    if word == "looks":
        return take_looks(words)
    if word == "habit":
        return take_states(words)
    if word == "register":
        return take_display(words)
    if word == "tiers":
        return take_tiers(words)
    return words.take_number(1, MOST_WIDTH) if word == "width" else take_gear(words)


def part_told(word, told):
    """The part that was told so; its class may refuse it."""
    if word == "train":
        return train_of(told)
    if word == "pace":
        return Pace(*told)
    if word == "looks":
        return looks_of(told)
    if word == "habit":
        return Habit(*told)
    if word == "register":
        return display_of(told[0], told[1])
    if word == "tiers":
        return None if told is None else Tiers(*told)
    return told if word == "width" else Gear(*told)
