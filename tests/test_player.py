"""Roads played tick by tick."""

import itertools
import random
import unittest

from gaugeroad.alarms import Alarm, Heard, calm, heard, longest_wait, surely, tells
from gaugeroad.cases import case_above, case_below
from gaugeroad.charts import Chart
from gaugeroad.errors import (BadAlarm, BadBeginning, BadChart, BadNumber, BadPlay, BadRoad, BadText, Broken, Forgotten,
                              Nothing, NotYet, RoadError, TooMany)
from gaugeroad.events import Event
from gaugeroad.gaps import above, below
from gaugeroad.habits import Habit
from gaugeroad.histories import Through
from gaugeroad.holes import sureness
from gaugeroad.lines import Line
from gaugeroad.looks import Looks
from gaugeroad.losses import Losses
from gaugeroad.marks import Marks
from gaugeroad.paces import Pace
from gaugeroad.parts import Divider, Gear, Slips, Wheel
from gaugeroad.player import Player
from gaugeroad.ratios import Ratio
from gaugeroad.registers import Dials, Plain, Restarting, Wrapping
from gaugeroad.roads import Road
from gaugeroad.tiers import Tiers
from gaugeroad.trains import Train
from gaugeroad.watch import Watch
from helpers import OTHERS, Case, same
from test_habits import some
from test_shafts import total_of

TRAINS = [Train(), Train(Wheel(3)), Train(Wheel(1, 2, 3)), Train(Wheel(2, 1), Divider(2)), Train(Wheel(1, 1, 3), Slips(3)),
          Train(Gear(2, 3), Slips(4, lost=2))]
LOOKS = [Habit.steady(3), Habit.missing(2, 1), Habit.loose(3, 1), Looks(3, 0), Looks(2, 0, 1, losses=Losses.runs(1, 1)),
         Looks(3, 0, 2, late=1, losses=Losses.share(1, 3)), Looks(2, 0, losses=Losses.runs(1, 1)),
         Looks(3, 0, 1, losses=Losses.runs(2, 1))]
DISPLAYS = [Plain(), Wrapping(2), Wrapping(50), Dials(3, 4), Restarting()]
TIERS = [None, None, Tiers((1, 12)), Tiers((1, 10), (3, 20), (6, 60)), Tiers((1, 14), (2, 18), (10, 100))]
PACE = Pace((1, 4), (3, 7), (5, 10))


def some_road(dice):
    return Road(dice.choice(TRAINS), PACE, dice.choice(LOOKS), display=dice.choice(DISPLAYS), tiers=dice.choice(TIERS),
                width=dice.randint(1, 4), zoom=dice.choice([None, Gear(2, 3), Gear(3, 1)]))


def some_player(dice, road):
    beginnings = []
    for part in road.train.parts:
        if isinstance(part, Slips):
            beginnings.append(dice.choice([Marks(1), Marks(part.of, dice.randrange(part.of)), Marks(7, 2)]))
        else:
            beginnings.append(dice.randrange(part.turn if isinstance(part, Wheel) else part.down))
    return Player(road, dice.randint(-9, 9), *beginnings, lead=dice.randrange(road.width))


def some_deed(dice, player):
    """A deed by lot: looks come as late as they may, if no lot takes them sooner."""
    if not can_do(player, "tick 0"):
        return dice.choice(["look", "lost"])
    return dice.choice([f"tick {dice.choice((0, 1, 1, 2, 3, 4, 5))}"] * 12 + ["look"] * 5 + ["lost"] * 3 + ["restart"] + [
        f"zoom {dice.choice(('1 1', '1 2', '3 2'))}", f"scroll {dice.randint(0, 5)}", "alarm none",
        f"alarm {dice.randint(1, 3)} {dice.randint(2, 4)} {dice.randint(1, 2)}"])


def can_do(player, deed):
    try:
        player.tried(lambda same: same.do(deed))
    except RoadError:
        return False
    return True


class Model:
    """A play, reckoned anew from all of its deeds by the words of the document."""

    def __init__(self, player):
        self.road, self.begin, self.lead = player.road, player.begin, player.lead
        self.beginnings = player.beginnings
        self.came, self.base, self.life = [], 0, 0
        self.line = Line(self.road.looks, self.begin)
        self.zoom, self.scroll, self.alarm = self.road.zoom, 0, None
        self.looks = [(self.begin, self.reading())]
        self.known = {self.begin}
        self.events = [(self.begin, "look", self.reading()), (self.begin, "known", self.begin)]
        self.reads = []
        for deed in player.log:
            self.do(*deed.split(" "))

    def now(self):
        return self.begin + len(self.came)

    def total(self):
        return total_of(self.road.train, self.beginnings, sum(self.came))

    def reading(self):
        return self.road.display.shows(self.total() - self.base, self.life)

    def do(self, word, *numbers):
        if word == "tick":
            self.came.append(int(numbers[0]))
            ticks = self.now() - self.road.patience - self.begin - self.lead
            if ticks >= 0 and ticks % self.road.width == 0:
                k = ticks // self.road.width
                self.events.append((self.now(), "read", k))
                self.reads.append(self.told_at(self.now() - self.road.patience))
        elif word in ("look", "lost"):
            found = self.line.look(self.now(), word == "look")
            self.looks.append((self.now(), self.reading()))
            self.known.update(found)
            self.events.append((self.now(), word, self.reading()))
            self.events.extend((self.now(), "known", moment) for moment in found)
        elif word == "restart":
            self.base, self.life = self.total(), self.life + 1
            self.events.append((self.now(), "anew", self.life))
        elif word == "zoom":
            self.zoom = Gear(*map(int, numbers))
        elif word == "scroll":
            self.scroll = int(numbers[0])
        else:
            self.alarm = None if numbers == ("none",) else Alarm(*map(int, numbers))

    def told_at(self, moment):
        """The total and the life of the last known look at or before a moment."""
        told, ahead = (0, 0), None
        for when, reading in self.looks:
            if when > moment or when not in self.known:
                continue
            if isinstance(self.road.display, Restarting):
                told = (reading[1], reading[0])
            elif ahead is not None:
                told = (told[0] + self.road.display.between(ahead, reading), 0)
            ahead = reading
        return told

    def border(self, k):
        return self.begin + self.lead + k * self.road.width

    def read_now(self, k):
        moment = self.border(k)
        age = self.now() - moment
        if age < self.road.patience:
            raise NotYet(moment)
        if self.road.tiers is None:
            return self.told_at(moment)
        grid = self.road.tiers.grid(moment, age)
        if grid < self.begin:
            raise Nothing()
        return self.told_at(grid)

    def rise(self, total):
        return (self.zoom.up * total + self.scroll) // self.zoom.down

    def column(self, k):
        one, other = self.read_now(k), self.read_now(k + 1)
        if one[1] != other[1]:
            raise Broken(self.border(k + 1))
        return self.rise(other[0]) - self.rise(one[0])

    def columns_then(self):
        return [self.rise(other[0]) - self.rise(one[0]) if one[1] == other[1] else 0
                for one, other in zip(self.reads, self.reads[1:])]

    def went(self):
        if self.alarm is None:
            return (), False
        watch, found = Watch(self.alarm), []
        for k, rows in enumerate(self.columns_then()):
            times = watch.times_on
            watch.step(rows)
            if watch.times_on > times:
                found.append(k + 1)
        return tuple(found), watch.is_on


def outcome(work, *args):
    try:
        return work(*args)
    except RoadError as error:
        return type(error), vars(error)


class TestPlays(Case):
    def test_plays_by_lot(self):
        seen = set()
        for seed in range(150):
            dice = random.Random(seed)
            player = some_player(dice, some_road(dice))
            for step in range(45):
                deed = some_deed(dice, player)
                before, log = player.twin(), player.log
                told = outcome(player.do, deed)
                if isinstance(told, tuple) and told and isinstance(told[0], type):
                    self.assertTrue(player == before and player.log == log and player.now == before.now)
                    seen.add(told[0])
                else:
                    self.alike(player.log, (*log, deed))
                    self.alike(told, self.wanted(before, deed))
                if step % 5 == 4:
                    self.check(player)
        self.assertLessEqual({BadPlay}, seen)

    def wanted(self, before, deed):
        """What a deed tells, by the events that it brings."""
        model = Model(before)
        many = len(model.events)
        model.do(*deed.split(" "))
        told = tuple(value for _, word, value in model.events[many:] if word in ("known", "read"))
        return told if deed.split(" ")[0] in ("tick", "look", "lost") else None

    def check(self, player):
        model = Model(player)
        self.alike((player.now, player.reading, len(player)), (model.now(), model.reading(), len(player.log)))
        self.alike(player.looked(), tuple(moment for moment, _ in model.looks))
        self.alike(player.known(), tuple(sorted(model.known)))
        self.alike([(event.moment, event.word, event.value) for event in player.events()], model.events)
        self.assertTrue(all(isinstance(event, Event) for event in player.events()))
        self.assertTrue(player.zoom == model.zoom and player.alarm == model.alarm)
        self.alike((player.scroll, (player.alarms(), player.is_on)), (model.scroll, model.went()))
        self.assertTrue(player.worth == (player.road.train + model.zoom).worth)
        chart = player.chart()
        self.assertIsInstance(chart, Chart)
        self.alike((chart.begin, chart.width, chart.store.now), (model.border(0), player.road.width, player.now))
        self.assertTrue(chart.zoom == model.zoom and chart.scroll == model.scroll)
        for k in range(len(model.came) // player.road.width + 2):
            wanted = outcome(model.column, k)
            self.assertEqual(outcome(chart.__getitem__, k), wanted)
            if isinstance(wanted, int):
                first = k * player.road.width + player.lead
                truth = sum(model.came[first:first + player.road.width])
                self.assertTrue(player.gap(k) == player.worth * wanted - truth)
                self.assertIsInstance(player.gap(k), Ratio)
            else:
                self.assertEqual(outcome(player.gap, k), wanted)
        for first, after in itertools.combinations_with_replacement(range(0, len(model.came) + 1, 3), 2):
            self.alike(player.truth(player.begin + first, player.begin + after), sum(model.came[first:after]))

    def test_deeds_taken_back(self):
        for seed in range(30):
            dice = random.Random(seed)
            player = some_player(dice, some_road(dice))
            states = [player.twin()]
            while len(player) < 30:
                if outcome(player.do, some_deed(dice, player)) is not None or player.log != states[-1].log:
                    if player.log != states[-1].log:
                        states.append(player.twin())
            for state, after in list(zip(states, states[1:]))[::-1]:
                self.assertTrue(player == after)
                self.alike(player.undo(), after.log[-1])
                self.assertTrue(player == state and player.log == state.log and len(player) == len(state))
                self.alike((player.now, player.known(), player.reading), (state.now, state.known(), state.reading))
            self.fails(Nothing(), player.undo)
            self.alike(list(map(str, player.events())), [f"{player.begin} look", f"{player.begin} known {player.begin}"])

    def test_texts_and_calls(self):
        road = Road(TRAINS[2], PACE, LOOKS[4], display=Restarting(), width=2)
        one, other = Player(road, 5, 1), Player(road, 5, 1, lead=0)
        one.tick(3)
        one.tick(amount=0)
        one.look(kept=False)
        one.restart()
        one.zoom = Gear(1, 2)
        one.scroll = 3
        one.alarm = Alarm(2, 3)
        one.alarm = None
        one.tick(1)
        one.change("alarm", Alarm(2, 3, 1))
        one.change(name="scroll", value=3)
        one.change("zoom", Divider(3))
        told = other.do_all("tick 3", "tick 0", "lost", "restart", "zoom 1 2", "scroll 3", "alarm 2 3 3", "alarm none", "tick 1",
                            "alarm 2 3 1", "scroll 3", "zoom 1 3")
        self.alike(told, [(), (), (), None, None, None, None, None, (0,), None, None, None])
        self.assertTrue(one == other)
        self.alike(one.log, other.log)
        self.assertEqual(list(one.events()), list(other.events()))

    def test_do_all_or_none(self):
        player = Player(Road(TRAINS[1], PACE, LOOKS[0]), 0, 0)
        player.tick(1)
        before, log = player.twin(), player.log
        for texts, error in [(("tick 1", "look", "tick 2"), BadPlay("early")), (("tick 4", "tick 4"), BadPlay("pace")),
                             (("tick 1", "zoom 2 2"), BadText(0, 2)), (("scroll 1", 5), BadText(0, 0)),
                             (("alarm none", "restart"), BadPlay("display")), (("tick 1", "tick 1", "tick 1"), BadPlay("late"))]:
            self.fails(error, player.do_all, *texts)
            self.assertTrue(player == before and player.log == log)
        self.alike(player.do_all(), [])
        self.alike(player.do_all("tick 0", "tick 0", "look"), [(1,), (2,), (3,)])

    def test_trials(self):
        player = Player(Road(TRAINS[1], PACE, LOOKS[0]), 0, 0)
        player.tick(1)
        before, log = player.twin(), player.log
        with player.trial() as same_player:
            self.assertIs(same_player, player)
            player.tick(1)
            with player.trial() as inner:
                inner.do_all("tick 1", "look")
                inner.zoom = Divider(2)
                self.assertEqual(player.now, 3)
            self.assertEqual((player.now, player.zoom == Gear(1, 1)), (2, True))
            player.undo()
            player.undo()
            self.assertEqual(len(player), 0)
        self.assertTrue(player == before and player.log == log and player.now == 1)

        def failing(one):
            one.do_all("tick 0", "tick 0", "look", "scroll 7")
            raise KeyError("odd")

        with self.assertRaises(KeyError):
            player.tried(failing)
        self.assertTrue(player == before and player.log == log)
        with self.assertRaises(BadPlay):
            with player.trial():
                player.tick(0)
                player.tick(9)
        self.assertTrue(player == before)
        self.alike(player.tried(lambda one: (one.tick(2), one.now)), ((1,), 2))
        self.assertEqual(player.tried(work=len), 1)
        twin = player.twin()
        self.assertTrue(twin == player)
        twin.tick(2)
        self.assertEqual((twin.now, player.now), (2, 1))
        self.alike(twin.undo(), "tick 2")
        self.alike(twin.undo(), "tick 1")
        self.assertEqual(len(player), 1)

    def test_equality(self):
        road = Road(TRAINS[2], PACE, LOOKS[0], width=2)
        base = Player(road, 0, 1)
        self.assertTrue(base == Player(Road(TRAINS[2], PACE, LOOKS[0], width=2), 0, 1))
        for other in (Player(road.changed(width=3), 0, 1), Player(road, 1, 1), Player(road, 0, 2), Player(road, 0, 1, lead=1)):
            self.assertFalse(base == other)
        for other in OTHERS + [road]:
            self.assertFalse(base == other)
        one, other = base.twin(), base.twin()
        one.do_all("tick 1", "scroll 2", "tick 2", "zoom 1 2", "zoom 1 1")
        other.do_all("scroll 5", "tick 1", "tick 2", "alarm none", "scroll 2")
        # Settings count as they are now, the other deeds in their order.
        self.assertTrue(one == other)
        one.zoom = Divider(2)
        self.assertFalse(one == other)
        other.zoom = Gear(1, 2)
        self.assertTrue(one == other)
        other.alarm = Alarm(1, 1)
        self.assertFalse(one == other)
        one.alarm = Alarm(1, 1, 1)
        self.assertTrue(one == other)
        one.scroll = 3
        self.assertFalse(one == other)
        back = base.twin()
        back.do_all("tick 2", "tick 1", "scroll 2")
        other = base.twin()
        other.do_all("tick 1", "tick 2", "scroll 2")
        self.assertFalse(back == other)

    def test_events_as_they_are_when_first_asked_for(self):
        player = Player(Road(TRAINS[1], PACE, LOOKS[0]), 0, 0)
        told = player.events()
        player.tick(1)
        self.assertEqual(str(next(told)), "0 look")
        player.tick(1)
        self.assertEqual(list(map(str, told)), ["0 known 0", "1 read 0"])

    def test_looks_that_never_become_known(self):
        road = Road(Train(), Pace((1, 1)), Looks(2, 0, 1, losses=Losses.runs(2, 1)), width=1)
        player = Player(road, 0)
        for deed in ("lost", "lost", "look", "look", "look"):
            player.do_all("tick 1", "tick 1", deed)
        self.alike((player.looked(), player.known()), ((0, 2, 4, 6, 8, 10), (0, 4, 6, 8, 10)))
        self.alike(player.chart().row(0, 7), (0, 0, 0, 4, 0, 2, 0))

    def test_columns_of_unlike_lives_tell_nothing(self):
        road = Road(Train(), Pace((1, 2)), Habit.steady(1), display=Restarting(), width=1)
        player = Player(road, 0)
        player.do_all("tick 2", "look", "restart", "tick 2", "look", "tick 2", "look", "tick 0")
        self.alike(list(player.chart().walk()), [(0, 2), (1, None), (2, 2)])
        for alarm, went, is_on in [(Alarm(2, 2, 2), (1,), True), (Alarm(1, 1), (1, 3), True), (Alarm(3, 4, 1), (3,), True),
                                   (Alarm(3, 5, 1), (), False), (Alarm(2, 2, 1), (1,), True)]:
            player.alarm = alarm
            self.alike((player.alarms(), player.is_on), (went, is_on))
        player.do_all("look", "restart", "tick 0", "look", "tick 0")
        self.alike(list(player.chart().walk()), [(0, 2), (1, None), (2, 2), (3, 0), (4, None)])
        player.alarm = Alarm(3, 2, 2)
        self.alike((player.alarms(), player.is_on), ((1,), True))

    def test_charts_go_their_own_way(self):
        player = Player(Road(TRAINS[0], PACE, LOOKS[0], width=1), 0)
        player.do_all("tick 2", "tick 1", "tick 1", "look", "tick 0")
        chart = player.chart()
        self.alike(chart.row(0, 3), (0, 0, 4))
        chart.store.pass_to(100)
        chart.zoom = Gear(2, 1)
        chart.store.put(100, 50)
        self.alike((player.chart().row(0, 3), player.chart().store.now, len(player)), ((0, 0, 4), 4, 5))
        player.do_all("tick 0", "tick 0", "look")
        self.alike(player.chart().row(0, 4), (0, 0, 4, 0))

    def test_without_tiers_nothing_is_forgotten(self):
        player = Player(Road(Train(), Pace((1, 1)), Habit.steady(60)), 0)
        for moment in range(2000):
            if moment % 60 == 0 and moment > 0:
                player.look()
            player.tick(1)
        chart = player.chart()
        self.alike((chart[59], chart[0], chart[1979], chart.newest), (60, 0, 60, 1998))
        self.fails(TooMany("ticks", 2000), player.tick, 0)
        self.fails(BadPlay("pace"), player.tick, 2)
        self.fails(BadNumber(-1), player.tick, -1)
        self.assertEqual(len(player), 2000 + 33)
        thinned = Player(Road(Train(), Pace((1, 1)), Habit.steady(1), tiers=Tiers((1, 5))), 0)
        for _ in range(9):
            thinned.tick(1)
            thinned.look()
        self.fails(Forgotten(4), thinned.gap, 4)
        self.assertTrue(thinned.gap(5) == 0)
        self.fails(NotYet(9), thinned.gap, 8)

    def test_late_ahead_of_too_many(self):
        player = Player(Road(Train(), Pace((1, 1)), Habit.steady(50)), -(10 ** 18))
        for moment in range(2000):
            if moment % 50 == 0 and moment > 0:
                player.look()
            player.tick(0)
        self.fails(BadPlay("late"), player.tick, 0)
        self.fails(BadPlay("pace"), player.tick, 2)
        player.look()
        self.fails(TooMany("ticks", 2000), player.tick, 0)
        self.assertEqual(player.now, 2000 - 10 ** 18)
        player.undo()
        player.undo()
        player.do_all("tick 1", "look")

    def test_amounts_with_the_pace(self):
        pace = Pace((1, 5), (3, 6), (60, 20))
        dice, player, came = random.Random(3), Player(Road(Train(), pace, Habit.steady(1)), 0), []
        for _ in range(300):
            amount = dice.choice((0, 0, 0, 0, 1, 2, 3, 5, 6))
            fits = all(sum((came + [amount])[-ticks:]) <= most for ticks, most in pace.rules)
            if fits:
                player.tick(amount)
                player.look()
                came.append(amount)
            else:
                self.fails(BadPlay("pace"), player.tick, amount)
        self.assertEqual(player.truth(0, 0 + len(came)), sum(came))
        self.assertGreater(max(came), 3)

    def test_errors_in_their_order(self):
        road = Road(TRAINS[3], PACE, LOOKS[0], width=4)
        for wrong in OTHERS + [5]:
            self.fails(BadRoad("road"), Player, wrong, wrong, wrong, lead=wrong)
        for wrong in OTHERS + [10 ** 18 + 1, -(10 ** 18) - 1]:
            self.fails(BadNumber(wrong), Player, road, wrong, 9, lead=9)
        self.fails(BadBeginning(0), Player, road, 0, lead=9)
        self.fails(BadBeginning(0), Player, road, 0, 3, 5, 5, lead=9)
        self.fails(BadBeginning(1), Player, road, 0, 2, lead=9)
        self.fails(BadBeginning(1), Player, road, 0, 2, 2, lead=9)
        self.fails(BadBeginning(2), Player, road, 0, 2, 1, 0, lead=9)
        for wrong in OTHERS + [4, -1]:
            self.fails(BadNumber(wrong), Player, road, 0, 2, 1, lead=wrong)
        player = Player(road, 10 ** 18, 2, 1, lead=3)
        self.alike((player.begin, player.beginnings, player.lead, player.now), (10 ** 18, (2, 1), 3, 10 ** 18))
        self.assertTrue(player.road == road)
        player.do_all("tick 1", "zoom 1 2")
        before, log = player.twin(), player.log
        for wrong in OTHERS + [-1, 10 ** 30 + 1]:
            self.fails(BadNumber(wrong), player.tick, wrong)
        self.fails(BadPlay("pace"), player.tick, 10 ** 30)
        for wrong in [None, 0, 1, "x", (), [True]]:
            self.fails(BadPlay("kept"), player.look, wrong)
        self.fails(BadPlay("early"), player.look, True)
        self.fails(BadPlay("early"), player.look, False)
        self.fails(BadPlay("display"), player.restart)
        for wrong in OTHERS + [5, Wheel(3)]:
            self.fails(BadChart("zoom"), setattr, player, "zoom", wrong)
            self.fails(BadChart("zoom"), player.change, "zoom", wrong)
            if wrong is not None:
                self.fails(BadAlarm("alarm"), setattr, player, "alarm", wrong)
                self.fails(BadAlarm("alarm"), player.change, "alarm", wrong)
            self.fails(BadPlay("name"), player.change, wrong, wrong)
        for wrong in OTHERS + [-1, 10 ** 9 + 1]:
            self.fails(BadNumber(wrong), setattr, player, "scroll", wrong)
            self.fails(BadNumber(wrong), player.change, "scroll", wrong)
            self.fails(BadNumber(wrong), player.gap, wrong)
        for wrong in OTHERS + [5, ("tick", 3), "tick x"]:
            self.fails(BadText(0, 1 if wrong == "tick x" else 0), player.do, wrong)
        begin = 10 ** 18
        for wrong in OTHERS:
            self.fails(BadNumber(wrong), player.truth, wrong, wrong)
            self.fails(BadNumber(wrong), player.truth, wrong, begin)
            self.fails(BadNumber(wrong), player.truth, begin, wrong)
        self.fails(BadNumber(begin - 3), player.truth, begin - 2, begin - 3)
        self.fails(Nothing(), player.truth, begin - 1, begin + 9)
        self.fails(NotYet(begin + 2), player.truth, begin + 1, begin + 2)
        self.alike(player.truth(first=begin, after=begin + 1), 1)
        self.assertTrue(player == before and player.log == log)
        lost = Player(Road(TRAINS[0], PACE, LOOKS[4]), 0)
        lost.do_all("tick 1", "tick 1", "lost", "tick 0", "tick 0")
        self.fails(BadPlay("losses"), lost.look, False)
        self.fails(BadPlay("late"), lost.tick, 0)
        kept = Player(Road(TRAINS[0], PACE, LOOKS[0]), 0)
        kept.do_all("tick 1", "tick 1", "tick 1")
        self.fails(BadPlay("losses"), kept.look, False)


class TestFacts(Case):
    def test_charts_lie_within_the_gaps(self):
        widest = 0
        for seed in range(120):
            dice = random.Random(seed)
            road = some_road(dice)
            if isinstance(road.display, Restarting):
                continue
            if not isinstance(road.display, Plain) and not sureness(road.train, road.display, road.pace, road.habit.hole):
                continue
            player = some_player(dice, road)
            player.zoom = road.zoom
            for _ in range(60):
                outcome(player.do, some_deed(dice, player) if dice.random() < 0.5 else "tick 4")
                player.zoom = road.zoom
            for k, column in player.chart().walk():
                if column is None:
                    continue
                border = player.begin + player.lead + k * road.width
                behind = (0, 0)
                if road.tiers is not None:
                    age = player.now - border - road.width
                    behind = road.tiers.offset(border, age + road.width), road.tiers.offset(border + road.width, age)
                gap = player.gap(k)
                self.assertTrue(gap.at_most(above(road, road.width, behind)))
                self.assertTrue((-gap).at_most(below(road, road.width, behind)))
                widest += gap == above(road, road.width, behind) or -gap == below(road, road.width, behind)
        self.assertGreater(widest, 3)

    def test_cases_are_met_in_plays(self):
        for seed in range(60):
            dice = random.Random(seed)
            habit = dice.choice([Habit.steady(3), Habit.missing(2, 1), some(seed)])
            road = Road(dice.choice(TRAINS), PACE, habit, width=dice.randint(1, 9), zoom=dice.choice([None, Gear(2, 3)]))
            for made, gap in ((case_above, above), (case_below, below)):
                case = made(road, road.width)
                a, b = case.window
                begin = case.looks[0]
                # The zoom of a case has a rest of its own: the scroll.
                player = Player(road, begin, *case.beginnings[:-1], lead=(a - begin) % road.width)
                player.scroll = case.beginnings[-1]
                history = Through(road.pace, *case.points)
                for moment in range(begin, case.looks[-1]):
                    if moment in case.looks[1:]:
                        player.look()
                    player.tick(history[moment])
                told = player.gap((a - begin) // road.width)
                self.assertTrue((told if case.side == "above" else -told) == gap(road, road.width))

    def test_alarms_do_as_is_told(self):
        bursts = went = 0
        for seed in range(40):
            dice = random.Random(seed)
            road = Road(dice.choice(TRAINS[:4]), PACE, dice.choice(LOOKS), width=dice.randint(1, 4))
            player = some_player(dice, road)
            burst = (dice.randint(5, 9), dice.randint(2, 4))
            on = dice.randint(1, 3)
            alarm = Alarm(dice.randint(2, 9), on, dice.randint(1, on))
            player.alarm = alarm
            states = []
            while player.now < player.begin + 80:
                if outcome(player.do, some_deed(dice, player) if dice.random() < 0.3 else "tick 3") is None:
                    player.scroll = 0
                    player.zoom = road.zoom
                    player.alarm = alarm
                states.append((player.now, player.is_on))
            if isinstance(heard(road, alarm, burst), Heard):
                wait = longest_wait(road)
                # What comes ahead of the first border lies in no column.
                for end in range(player.begin + player.lead + burst[1], player.now - wait):
                    if player.truth(end - burst[1], end) >= burst[0]:
                        self.assertTrue(any(is_on for moment, is_on in states if end <= moment <= end + wait))
                        bursts += 1
            self.went_on(road, player, alarm)
            went += len(player.alarms())
        self.assertGreater(bursts, 30)
        self.assertGreater(went, 30)

    def went_on(self, road, player, alarm):
        """What came between the looks at which the ends of the watched columns were read."""
        known = player.known()
        for k in player.alarms():
            ends = [max(known[0], player.begin + player.lead + (k - back) * road.width) for back in (alarm.columns, 0)]
            first, last = (max(moment for moment in known if moment <= end) for end in ends)
            came = [player.truth(moment, moment + 1) for moment in range(first, last)]
            told = tells(road, alarm)
            self.assertTrue(told and sum(came) >= told.amount and last - first <= told.span)
            for ticks in (1, 3, 7):
                most = max([sum(came[at:at + ticks]) for at in range(max(1, len(came) - ticks + 1))])
                self.assertGreaterEqual(most, surely(road, alarm, ticks).amount)
        model = Model(player)
        watch, off = Watch(alarm), None
        for k, rows in enumerate(model.columns_then()):
            was_on = watch.is_on
            watch.step(rows)
            if was_on and not watch.is_on:
                off = k
            if watch.is_on and not was_on and off is not None:
                self.assertGreaterEqual(k - off, calm(road, alarm))

    def test_displays_that_are_surely_read(self):
        for seed in range(40):
            dice = random.Random(seed)
            road = Road(dice.choice(TRAINS), PACE, dice.choice(LOOKS), width=dice.randint(1, 4))
            one = some_player(dice, road)
            others = [Player(road.changed(display=display), one.begin, *one.beginnings, lead=one.lead)
                      for display in (Wrapping(7), Dials(5, 7), Dials(2, 3), Restarting(), Wrapping(40))]
            for _ in range(50):
                deed = some_deed(dice, one)
                if deed == "restart":
                    continue
                told = outcome(one.do, deed)
                for other in others:
                    self.assertTrue(same(outcome(other.do, deed), told))
            for other in others:
                display = other.road.display
                if isinstance(display, Restarting) or sureness(road.train, display, road.pace, road.habit.hole):
                    self.assertEqual(list(other.chart().walk()), list(one.chart().walk()))
                    self.assertEqual(other.alarms(), one.alarms())

    def test_known_looks_alone(self):
        for seed in range(40):
            dice = random.Random(seed)
            looks = dice.choice([looks for looks in LOOKS if isinstance(looks, Looks)])
            road = Road(dice.choice(TRAINS), PACE, looks, width=dice.randint(1, 4))
            one = some_player(dice, road)
            for _ in range(60):
                outcome(one.do, some_deed(dice, one) if dice.random() < 0.7 else "lost")
            known, other = one.known(), Player(road.changed(looks=looks.known()), one.begin, *one.beginnings, lead=one.lead)
            other.do_all(f"zoom {one.zoom.up} {one.zoom.down}", f"scroll {one.scroll}")
            for moment in range(one.begin, one.now):
                if moment in known[1:]:
                    other.look()
                if outcome(other.tick, one.truth(moment, moment + 1)) == (BadPlay, {"part": "late"}):
                    break
            chart, last = one.chart(), min(one.chart().newest, other.chart().newest)
            self.assertEqual(chart.row(0, last + 1), other.chart().row(0, last + 1))

    def test_trains_that_are_alike(self):
        road = Road(Train(Wheel(3)), PACE, Habit.missing(2, 1), width=2)
        twin = road.changed(train=Train(Wheel(1, 2), Divider(2)))
        deeds = []
        dice, guide = random.Random(5), Player(road, 0, 0)
        for _ in range(60):
            deed = some_deed(dice, guide)
            if not isinstance(outcome(guide.do, deed), tuple) or guide.log[len(deeds):] == (deed,):
                deeds.append(deed)
        deeds = list(guide.log)

        def rows(player):
            player.do_all(*deeds)
            return player.chart().row(0, player.chart().newest + 1)

        one = {rows(Player(road, 0, b)) for b in range(3)}
        other = {rows(Player(twin, 0, b, rest)) for b in range(3) for rest in range(2)}
        self.assertEqual(one, other)
        self.assertEqual(len(one), len({rows(Player(road, 0, b)) for b in range(3)}))


if __name__ == "__main__":
    unittest.main()
