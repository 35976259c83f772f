"""Roads played tick by tick."""

from gaugeroad.alarms import Alarm
from gaugeroad.charts import Chart, check_scroll, check_zoom, moment_of
from gaugeroad.deeds import text_of_alarm, told_deed
from gaugeroad.errors import BadAlarm, BadNumber, BadPlay, BadRoad, Nothing, NotYet, TooMany
from gaugeroad.events import Event
from gaugeroad.flows import Flow, shown, total_of
from gaugeroad.kinds import check_number, is_whole
from gaugeroad.lines import check_late, check_look
from gaugeroad.registers import Restarting
from gaugeroad.roads import Road
from gaugeroad.shafts import Shaft
from gaugeroad.sights import first_sight
from gaugeroad.stands import Setting, Stand, came_up_to, columns_of, deeds_of, lasting_deeds_of, stands_up_to
from gaugeroad.trials import Trial
from gaugeroad.watch import states_on

FAR_BEGIN = 10 ** 18
MOST_AMOUNT = 10 ** 30
MOST_TICKS = 2000


class Player:
    """A road with all that comes, is looked at and becomes known, deed by deed; it changes."""

    def __init__(self, road, begin, *beginnings, lead=0):
        if not isinstance(road, Road):
            raise BadRoad("road")
        check_number(begin, -FAR_BEGIN, FAR_BEGIN)
        # A shaft refuses beginnings that are none.
        Shaft(road.train, *beginnings)
        check_number(lead, 0, road.width - 1)
        self.road = road
        self.begin = begin
        self.beginnings = beginnings
        self.lead = lead
        flow = Flow(begin, 0, (), 0, 0)
        shows = shown(road, beginnings, flow)
        happened = (Event(begin, "look", shows), Event(begin, "known", begin))
        self._state = Stand(None, None, happened, flow, first_sight(road, begin, shows), Setting(road.zoom, 0, None))

    @property
    def now(self):
        """The moment up to which it was played."""
        return self._state.flow.moment

    @property
    def reading(self):
        """What the register shows."""
        return shown(self.road, self.beginnings, self._state.flow)

    @property
    def worth(self):
        """The worth of a row of the chart."""
        return (self.road.train + self._state.setting.zoom).worth

    @property
    def is_on(self):
        """Whether the alarm is on at the last border that was read."""
        states = alarm_states(self._state)
        return states != [] and states[-1]

    @property
    def log(self):
        """The texts of all deeds."""
        return tuple(deeds_of(self._state))

    @property
    def zoom(self):
        """The zoom of now."""
        return self._state.setting.zoom

    @zoom.setter
    def zoom(self, value):
        set_part(self, "zoom", value)

    @property
    def scroll(self):
        """The scroll of now."""
        return self._state.setting.scroll

    @scroll.setter
    def scroll(self, value):
        set_part(self, "scroll", value)

    @property
    def alarm(self):
        """The alarm of now, or None."""
        return self._state.setting.alarm

    @alarm.setter
    def alarm(self, value):
        set_part(self, "alarm", value)

    def tick(self, amount):
        """Lets an amount come in the next tick, and tells the numbers of the borders that are read behind it."""
        check_number(amount, 0, MOST_AMOUNT)
        stand = self._state
        if not stand.flow.can_go_on(self.road.pace, amount):
            raise BadPlay("pace")
        check_late(stand.sight.course, self.now + 1)
        if self.now - self.begin >= MOST_TICKS:
            raise TooMany("ticks", MOST_TICKS)
        flow = stand.flow.led_on(amount)
        sight = stand.sight.led_on(self.road.display)
        borders = borders_read(self, flow.moment)
        happened = tuple([Event(flow.moment, "read", k) for k in borders])
        crossed = tuple([sight.store.look_at(flow.moment - self.road.patience) for _ in borders])
        self._state = Stand(stand, f"tick {amount}", happened, flow, sight, stand.setting, crossed)
        return borders

    def look(self, kept=True):
        """Takes a look now, and tells the moments of the looks that become known by it."""
        stand = self._state
        check_look(stand.sight.course, self.now, kept)
        word = "look" if kept else "lost"
        shows = self.reading
        sight, found = stand.sight.with_look(self.now, kept, shows)
        happened = (Event(self.now, word, shows), *[Event(self.now, "known", moment) for moment in found])
        self._state = Stand(stand, word, happened, stand.flow, sight, stand.setting)
        return found

    def restart(self):
        """Lets the register begin anew."""
        if not isinstance(self.road.display, Restarting):
            raise BadPlay("display")
        stand = self._state
        flow = stand.flow.anew(total_of(self.road, self.beginnings, stand.flow))
        happened = (Event(self.now, "anew", flow.life),)
        self._state = Stand(stand, "restart", happened, flow, stand.sight, stand.setting)

    def change(self, name, value):
        """Sets the zoom, the scroll or the alarm."""
        if name not in ("zoom", "scroll", "alarm"):
            raise BadPlay("name")
        set_part(self, name, value)

    def do(self, text):
        """Does the deed that a text tells, and tells what it does."""
        deed = told_deed(text)
        if deed[0] == "tick":
            return self.tick(deed[1])
        if deed[0] in ("look", "lost"):
            return self.look(deed[0] == "look")
        if deed[0] == "restart":
            return self.restart()
        return set_part(self, deed[0], deed[1])

    def do_all(self, *texts):
        """Does the deeds that texts tell, all or none."""
        other = self.twin()
        done = [other.do(text) for text in texts]
        self._state = other._state
        return done

    def looked(self):
        """The moments of the looks that were taken."""
        return tuple([event.moment for event in happened_up_to(self._state) if event.word in ("look", "lost")])

    def known(self):
        """The moments of the looks that are known."""
        return tuple(sorted([event.value for event in happened_up_to(self._state) if event.word == "known"]))

    def truth(self, first, after):
        """What came from one moment to another one."""
        if not is_whole(first):
            raise BadNumber(first)
        if not is_whole(after) or after < first:
            raise BadNumber(after)
        if first < self.begin:
            raise Nothing()
        if after > self.now:
            raise NotYet(after)
        return came_up_to(self._state, after) - came_up_to(self._state, first)

    def events(self):
        """All that happened so far, in order."""
        found = happened_up_to(self._state)
        for event in found:
            yield event

    def chart(self):
        """A new chart over a twin of the store."""
        stand = self._state
        begin = self.begin + self.lead
        return Chart(stand.sight.store.twin(), begin, self.road.width, stand.setting.zoom, stand.setting.scroll)

    def gap(self, k):
        """What a column tells less what came in it."""
        chart = self.chart()
        told = self.worth * chart[k]
        return told - self.truth(moment_of(chart, k), moment_of(chart, k + 1))

    def alarms(self):
        """The numbers of the borders at which the alarm went on."""
        states = [False, *alarm_states(self._state)]
        return tuple([k for k in range(1, len(states)) if states[k] and not states[k - 1]])

    def undo(self):
        """Takes the last deed back, and tells its text."""
        stand = self._state
        if stand.before is None:
            raise Nothing()
        self._state = stand.before
        return stand.deed

    def trial(self):
        """A block behind which the player is as when it began."""
        return Trial(self)

    def tried(self, work):
        """What some work on the player returns, which is as before behind it."""
        with Trial(self) as same:
            return work(same)

    def twin(self):
        """An equal player that goes its own way."""
        other = Player(self.road, self.begin, *self.beginnings, lead=self.lead)
        other._state = self._state
        return other

    def told(self):
        """What it was made of."""
        return self.road, self.begin, self.beginnings, self.lead

    def __len__(self):
        return len(deeds_of(self._state))

    def __eq__(self, other):
        if not isinstance(other, Player) or self.told() != other.told():
            return False
        if self._state.setting != other._state.setting:
            return False
        return lasting_deeds_of(self._state) == lasting_deeds_of(other._state)


def set_part(player, name, value):
    """Sets the zoom, the scroll or the alarm of a player, which is a deed of its own."""
    stand = player._state
    text = text_of_setting(name, value)
    player._state = Stand(stand, text, (), stand.flow, stand.sight, stand.setting.changed(name, value))


def text_of_setting(name, value):
    """The deed that sets the zoom, the scroll or the alarm to any value that it can be."""
    if name == "zoom":
        check_zoom(value)
        return f"zoom {value.up} {value.down}"
    if name == "scroll":
        check_scroll(value)
        return f"scroll {value}"
    if value is not None and not isinstance(value, Alarm):
        raise BadAlarm("alarm")
    return f"alarm {text_of_alarm(value)}"


def borders_read(player, moment):
    """The numbers of the borders that are just so old that they are read at a moment."""
    ticks = moment - player.road.patience - player.begin - player.lead
    return (ticks // player.road.width,) if ticks >= 0 and ticks % player.road.width == 0 else ()


def happened_up_to(last):
    """All that happened up to a stand, in order."""
    return [event for stand in stands_up_to(last) for event in stand.happened]


def alarm_states(stand):
    """Behind each column that was read, whether the alarm is on; none without an alarm."""
    alarm = stand.setting.alarm
    return [] if alarm is None else states_on(alarm, columns_of(stand))
