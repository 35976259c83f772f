"""Alarms at work, column by column."""

from gaugeroad.alarms import Alarm
from gaugeroad.errors import BadAlarm
from gaugeroad.kinds import check_number, is_within

FAR = 10 ** 40


class Watch:
    """An alarm that is told column by column; it changes."""

    def __init__(self, alarm):
        check_alarm(alarm)
        self.alarm = alarm
        self._rows = ()
        self._on = False
        self._times = 0

    @property
    def is_on(self):
        """Whether it is on."""
        return self._on

    @property
    def rows_now(self):
        """What the last columns tell together."""
        return sum(self._rows)

    @property
    def times_on(self):
        """How often it went on."""
        return self._times

    def step(self, rows):
        """Takes the rows of the next column, and tells whether the watch is on then."""
        check_number(rows, 0, FAR)
        columns = (*self._rows, rows)
        was_on = self._on
        self._rows = columns[-self.alarm.columns:]
        self._on = stays_on(self.alarm, was_on, sum(self._rows))
        if self._on and not was_on:
            self._times += 1
        return self._on

    def twin(self):
        """An equal watch that goes its own way."""
        other = Watch(self.alarm)
        other._rows = self._rows
        other._on = self._on
        other._times = self._times
        return other

    def __eq__(self, other):
        if not isinstance(other, Watch) or self.alarm != other.alarm:
            return False
        return self._rows == other._rows and self._on == other._on


def on_after(alarm, rows):
    """Whether a watch is on behind these columns."""
    check_alarm(alarm)
    if not isinstance(rows, (list, tuple)) or not all([is_within(row, 0, FAR) for row in rows]):
        raise BadAlarm("rows")
    states = states_on(alarm, rows)
    return states != [] and states[-1]


def check_alarm(alarm):
    """Refuses any value that is no alarm."""
    if not isinstance(alarm, Alarm):
        raise BadAlarm("alarm")


def stays_on(alarm, was_on, together):
    """Whether an alarm is on at a border at which its columns tell so many rows together."""
    return together >= (alarm.off if was_on else alarm.on)


def states_on(alarm, rows):
    """Behind each of some columns, whether the alarm is on."""
    found = [False]
    for after in range(1, len(rows) + 1):
        together = sum(rows[max(0, after - alarm.columns):after])
        found.append(stays_on(alarm, found[-1], together))
    return found[1:]
