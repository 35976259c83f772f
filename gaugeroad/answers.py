"""What a desk answers to lines that ask for a road, for an alarm or for a play."""

from gaugeroad.alarms import Heard, Missed, Never, covers, heard, level_for, surely, tells
from gaugeroad.cases import case_above, case_below
from gaugeroad.classes import alike, rows_of
from gaugeroad.gaps import above, aged, below, plain_above, plain_below, plain_from
from gaugeroad.holes import least_modulus, longest_sure_hole, sureness
from gaugeroad.look_gaps import weigh
from gaugeroad.texts import play_text, road_text


def answer_show(road, _):
    """The page of the road in one line."""
    return " ; ".join(road_text(road).split("\n"))


def answer_above(road, told):
    """The gap above of a length."""
    return str(above(road, told[0]))


def answer_below(road, told):
    """The gap below of a length."""
    return str(below(road, told[0]))


def answer_aged(road, told):
    """The gap of a side, a length and an age."""
    return str(aged(road, told[0], told[1], told[2]))


def answer_plain(road, told):
    """The plain gap of a side."""
    return str(plain_above(road) if told[0] == "above" else plain_below(road))


def answer_from(road, told):
    """The length from which on the gap of a side is the plain one."""
    return str(plain_from(road, told[0]))


def answer_case(road, told):
    """What is told, and what is true, in a case that meets the gap of a side and a length."""
    case = case_above(road, told[1]) if told[0] == "above" else case_below(road, told[1])
    return " ".join([str(number) for number in weigh(road, case)])


def answer_sure(road, _):
    """Whether the register is surely read."""
    return "sure" if sureness(road.train, road.display, road.pace, road.habit.hole) else "unsure"


def answer_modulus(road, _):
    """The least modulus with which it would be."""
    return str(least_modulus(road.train, road.pace, road.habit.hole))


def answer_longest(road, _):
    """The longest hole with which it would be."""
    return str(longest_sure_hole(road.train, road.display, road.pace))


def answer_level(road, told):
    """The greatest on with which a burst is heard."""
    return str(level_for(road, told))


def answer_rows(road, _):
    """The rows of marks of the train."""
    return " / ".join([str(row) for row in rows_of(road.train)])


def answer_alike(road, told):
    """Whether the train is like another one, or a word that parts them."""
    found = alike(road.train, told)
    return "alike" if found else f"parted {found.word}"


def answer_covers(road, alarm, told):
    """Whether the columns of the alarm cover so many ticks."""
    return "yes" if covers(road.habit, road.width, alarm.columns, told[0]) else "no"


def answer_heard(road, alarm, told):
    """Whether the alarm hears a burst, and why if it does not."""
    found = heard(road, alarm, told)
    if isinstance(found, Heard):
        return "heard"
    if isinstance(found, Missed):
        return "missed"
    return "never" if isinstance(found, Never) else "uncovered"


def answer_tells(road, alarm, _):
    """What came in which ticks where the alarm goes on."""
    found = tells(road, alarm)
    return f"{found.amount} {found.span}" if found else "silent"


def answer_surely(road, alarm, told):
    """What surely came in some so many ticks where the alarm goes on."""
    return str(surely(road, alarm, told[0]).amount)


def answer_log(play, _):
    """The page of the play in one line."""
    return " ; ".join(play_text(play).split("\n"))


def answer_now(play, _):
    """The moment of the play."""
    return str(play.now)


def answer_column(play, told):
    """What a column of the chart tells."""
    return str(play.chart()[told[0]])


def answer_rise(play, told):
    """The rise of the chart at a border."""
    return str(play.chart().rise(told[0]))


def answer_gap(play, told):
    """What a column tells less its truth."""
    return str(play.gap(told[0]))


def answer_known(play, _):
    """The moments of the known looks."""
    return text_of_numbers(play.known())


def answer_went(play, _):
    """The borders at which the alarm went on."""
    return text_of_numbers(play.alarms())


def text_of_numbers(numbers):
    """Numbers in a row, or a dash where there is none."""
    return " ".join([str(number) for number in numbers]) if numbers else "-"


OF_ROADS = {"show": answer_show, "above": answer_above, "below": answer_below, "aged": answer_aged,
            "plain": answer_plain, "from": answer_from, "case": answer_case, "sure": answer_sure,
            "modulus": answer_modulus, "longest": answer_longest, "level": answer_level, "rows": answer_rows,
            "alike": answer_alike}
OF_ALARMS = {"covers": answer_covers, "heard": answer_heard, "tells": answer_tells, "surely": answer_surely}
OF_PLAYS = {"log": answer_log, "now": answer_now, "column": answer_column, "rise": answer_rise, "gap": answer_gap,
            "known": answer_known, "went": answer_went}
