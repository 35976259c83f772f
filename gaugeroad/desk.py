"""A desk to which roads, alarms and plays are told line by line, and that answers."""

from gaugeroad.answers import OF_ALARMS, OF_PLAYS, OF_ROADS
from gaugeroad.errors import Nothing
from gaugeroad.orders import told_order
from gaugeroad.partlines import PART_WORDS, name_of_part
from gaugeroad.parts import Gear
from gaugeroad.player import Player
from gaugeroad.registers import Plain
from gaugeroad.roads import Road
from gaugeroad.trials import Trial


class Setup:
    """What a desk has behind a line, and the setup ahead of it; it never changes."""

    def __init__(self, before, word, parts, road, alarm, play):
        self.before = before
        self.word = word
        self.parts = parts
        self.road = road
        self.alarm = alarm
        self.play = play


class Desk:
    """Keeps the parts of a road, a road, an alarm and a play; it changes."""

    def __init__(self):
        parts = {"train": None, "pace": None, "looks": None, "display": Plain(), "tiers": None, "width": 1,
                 "zoom": Gear(1, 1)}
        self._state = Setup(None, None, parts, None, None, None)

    @property
    def road_now(self):
        """The road, or None."""
        return self._state.road

    @property
    def alarm_now(self):
        """The alarm, or None."""
        return self._state.alarm

    def play_now(self):
        """A twin of the play, or None."""
        play = self._state.play
        return None if play is None else play.twin()

    def say(self, line):
        """Does what a line tells, and tells the answer."""
        word, told = told_order(line)
        if word == "undo":
            return taken_back(self)
        changed = setup_behind(self._state, word, told)
        if changed is None:
            return answer_of(self._state, word, told)
        self._state = changed
        return "ok"

    def run(self, *lines):
        """The answers to lines, all of which are done, or none."""
        other = Desk()
        other._state = self._state
        found = [other.say(line) for line in lines]
        self._state = other._state
        return found

    def trial(self):
        """A block behind which the desk is as when it began."""
        return Trial(self)

    def tried(self, work):
        """What some work on the desk returns, which is as before behind it."""
        with Trial(self) as same:
            return work(same)

    def told(self):
        """The parts of a road, the alarm and the play."""
        return self._state.parts, self._state.alarm, self._state.play

    def __call__(self, line):
        return self.say(line)

    def __len__(self):
        return len(words_of(self._state))

    def __eq__(self, other):
        return isinstance(other, Desk) and self.told() == other.told()


def words_of(last):
    """The first words of the lines that can be taken back."""
    found = []
    state = last
    while state.before is not None:
        found.append(state.word)
        state = state.before
    return found


def taken_back(desk):
    """Takes the last line back, and tells its first word."""
    state = desk._state
    if state.before is None:
        return "nothing"
    desk._state = state.before
    return state.word


def setup_behind(state, word, told):
    """The setup behind a line, None if it changes nothing."""
    if word in PART_WORDS:
        parts = {**state.parts, name_of_part(word): told}
        return Setup(state, word, parts, road_of(parts), state.alarm, None)
    if word == "alarm":
        return Setup(state, word, state.parts, state.road, told, state.play)
    if word == "begin":
        moment, lead, beginnings = told
        play = Player(there(state.road), moment, *beginnings, lead=lead)
        return Setup(state, word, state.parts, state.road, state.alarm, play)
    if word == "do":
        play = there(state.play).twin()
        play.do(told)
        return Setup(state, word, state.parts, state.road, state.alarm, play)
    return None


def road_of(parts):
    """The road of some parts, None as long as train, pace or looks is not there."""
    if parts["train"] is None or parts["pace"] is None or parts["looks"] is None:
        return None
    return Road(**parts)


def answer_of(state, word, told):
    """The answer to a line that asks."""
    if word in OF_ROADS:
        action = OF_ROADS[word]
        return action(there(state.road), told)
    if word in OF_ALARMS:
        action = OF_ALARMS[word]
        road = there(state.road)
        return action(road, there(state.alarm), told)
    action = OF_PLAYS[word]
    return action(there(state.play), told)


def there(value):
    """Something that a line asks for, which is to be there."""
    if value is None:
        raise Nothing()
    return value
