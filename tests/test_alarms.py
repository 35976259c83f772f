"""Alarms: bursts that are heard, and what surely came where an alarm goes on."""

import itertools
import random
import unittest

from gaugeroad.alarms import (Alarm, Covers, Heard, Missed, Never, Silent, Surely, Tells, Uncovered, calm, columns_for,
                              covers, heard, level_for, levels, longest_wait, spares, surely, tells)
from gaugeroad.errors import BadAlarm, BadHabit, BadNumber, BadRoad, Nothing, TooMany
from gaugeroad.habits import Habit
from gaugeroad.lags import beyond, spans
from gaugeroad.look_alarms import shows_covers, shows_heard, shows_surely, shows_tells
from gaugeroad.looks import Looks
from gaugeroad.losses import Losses
from gaugeroad.paces import Pace
from gaugeroad.parts import Divider, Gear, Slips, Wheel
from gaugeroad.registers import Dials, Plain, Restarting, Wrapping
from gaugeroad.roads import Road
from gaugeroad.shafts import Shaft
from gaugeroad.tiers import Tiers
from gaugeroad.trains import Train
from gaugeroad.verdicts import Verdict
from helpers import OTHERS, Case
from test_gaps import counts_of
from test_habits import some
from test_lags import sums, walks_from
from test_paces import all_rows

TRAINS = [Train(), Train(Wheel(3)), Train(Wheel(1, 2)), Train(Wheel(2), Divider(2)), Train(Slips(2)), Train(Gear(3, 2)),
          Train(Wheel(1, 2), Slips(3, lost=2)), Train(Wheel(2, 3), Gear(2, 3))]
PACES = [Pace((1, 1)), Pace((1, 2)), Pace((1, 2), (2, 3)), Pace((2, 1)), Pace((1, 2), (3, 2))]
HABITS = [Habit.steady(1), Habit.steady(2), Habit.steady(3), Habit.missing(1, 1), Habit.loose(2, 1)]
NO_ALARMS = OTHERS + [5, (1, 1), Heard(())]
NO_BURSTS = OTHERS + [5, [1, 1], (1,), (1, 1, 1), (0, 1), (1, 0), (10 ** 9 + 1, 1), (1, 201), (True, 1), (1, True), ("1", 1)]
ROAD = Road(Train(Wheel(5)), Pace((1, 3), (4, 6)), Habit.steady(3), width=6)


def some_road(dice, habit=None):
    return Road(dice.choice(TRAINS), dice.choice(PACES), habit or dice.choice(HABITS), width=dice.randint(1, 3),
                zoom=dice.choice([None, Divider(2), Gear(3, 2)]))


def is_covered(habit, width, columns, ticks):
    """By the words of the document: each stretch, all looks and all borders gone through whole."""
    for state in range(len(habit)):
        # Behind so many ticks each border reads looks behind the stretch.
        for looks in {tuple(sums(row)) for row in walks_from(habit, state, 2 * habit.hole + ticks + width)}:
            for begin in range(looks[1]):
                if not all(lies_between(looks, begin, ticks, width, columns, phase) for phase in range(width)):
                    return False
    return True


def lies_between(looks, begin, ticks, width, columns, phase):
    """Whether the stretch lies between the looks at which the ends of the watched columns are read at some border."""
    for border in range(phase, looks[-1], width):
        first = border - columns * width
        # Up to the first look of the row any look is ahead of the stretch.
        is_ahead = first < looks[1] and max([look for look in looks if look <= max(0, first)]) <= begin
        if is_ahead and max(look for look in looks if look <= border) >= begin + ticks:
            return True
    return False


class TestAlarm(Case):
    def test_what_it_has(self):
        alarm = Alarm(columns=2, on=5, off=3)
        self.alike((alarm.columns, alarm.on, alarm.off), (2, 5, 3))
        self.alike(Alarm(50, 10 ** 20).off, 10 ** 20)
        self.assertTrue(Alarm(1, 4) == Alarm(1, 4, 4) == Alarm(1, 4, None))
        for other in (Alarm(2, 5, 2), Alarm(2, 4, 3), Alarm(1, 5, 3), (2, 5, 3), None):
            self.assertFalse(alarm == other)

    def test_errors_in_their_order(self):
        for wrong in OTHERS + [0, 51, -1]:
            self.fails(BadNumber(wrong), Alarm, wrong, -7, -7)
        for wrong in OTHERS + [0, 10 ** 20 + 1]:
            self.fails(BadNumber(wrong), Alarm, 1, wrong, -7)
        for wrong in [other for other in OTHERS if other is not None] + [0, 6, -1]:
            self.fails(BadAlarm("off"), Alarm, 1, 5, wrong)


class TestCovers(Case):
    def test_over_all_stretches(self):
        for seed in range(12):
            habit = HABITS[seed] if seed < len(HABITS) else some(seed, states=2, length=3)
            for width, columns, ticks in itertools.product((1, 2), (1, 2, 3), (1, 2, 4)):
                told = covers(habit, width, columns, ticks)
                self.assertIs(bool(told), is_covered(habit, width, columns, ticks), (str(habit), width, columns, ticks))

    def test_answers(self):
        for seed in range(40):
            dice = random.Random(seed)
            habit = some(seed, states=4, length=9)
            width, columns, ticks = dice.randint(1, 5), dice.randint(1, 5), dice.randint(1, 14)
            told = covers(habit, width, columns, ticks)
            farthest = max(beyond(habit, state, ticks - 1) for state in range(len(habit)))
            self.assertIs(bool(told), farthest <= (columns - 1) * width)
            if told:
                wanted = tuple(tuple(beyond(habit, state, r) for r in range(ticks)) for state in range(len(habit)))
                self.alike(told.table, wanted)
                self.assertTrue(told == Covers(wanted))
            else:
                lengths = told.lengths
                self.assertIn(lengths, habit)
                self.assertTrue(sum(lengths[:-1]) < ticks - 1 <= sum(lengths) and sum(lengths) > (columns - 1) * width)
            self.assertIs(shows_covers(habit, width, columns, ticks, told), True)
            self.assertEqual(covers(habit=habit, width=width, columns=columns, ticks=ticks), told)

    def test_edges(self):
        self.assertTrue(covers(Habit.steady(60), 1, 1, 1))
        self.assertEqual(covers(Habit.steady(60), 1, 1, 1).table, ((0,),))
        self.assertTrue(covers(Habit.missing(50, 3), 1000, 2, 200))
        self.assertFalse(covers(Habit.missing(50, 3), 1, 50, 200))
        self.assertEqual(len(covers(Habit.steady(1), 1000, 50, 200).table[0]), 200)

    def test_errors_in_their_order(self):
        for wrong in NO_ALARMS:
            self.fails(BadHabit(None), covers, wrong, wrong, wrong, wrong)
            self.fails(BadHabit(None), shows_covers, wrong, wrong, wrong, wrong, wrong)
        for wrong in OTHERS + [0, 1001]:
            self.fails(BadNumber(wrong), covers, HABITS[0], wrong, 51, 201)
            self.fails(BadNumber(wrong), shows_covers, HABITS[0], wrong, 51, 201, None)
        for wrong in OTHERS + [0, 51]:
            self.fails(BadNumber(wrong), covers, HABITS[0], 1, wrong, 201)
            self.fails(BadNumber(wrong), shows_covers, HABITS[0], 1, wrong, 201, None)
        for wrong in OTHERS + [0, 201]:
            self.fails(BadNumber(wrong), covers, HABITS[0], 1, 1, wrong)
            self.fails(BadNumber(wrong), shows_covers, HABITS[0], 1, 1, wrong, None)

    def test_columns_for(self):
        for seed in range(40):
            dice = random.Random(seed)
            road, ticks = some_road(dice, some(seed, states=3, length=9)), dice.randint(1, 20)
            many = columns_for(road, ticks)
            for columns in range(1, 20):
                self.assertIs(bool(covers(road.habit, road.width, columns, ticks)), columns >= many)
        road = Road(Train(), Pace((1, 1)), Habit.steady(1))
        self.alike([columns_for(road, 1), columns_for(road, 50)], [1, 50])
        self.fails(TooMany("columns", 50), columns_for, road, 51)
        self.fails(TooMany("columns", 50), columns_for, road, 200)
        for wrong in NO_ALARMS:
            self.fails(BadRoad("road"), columns_for, wrong, wrong)
        for wrong in OTHERS + [0, 201]:
            self.fails(BadNumber(wrong), columns_for, ROAD.changed(display=Restarting()), wrong)


def rows_with(road, burst):
    """All that comes in a burst, and nothing around it."""
    amount, ticks = burst
    return [row for row in all_rows(road.pace, ticks, amount) if sum(row) == amount]


def is_heard(road, alarm, burst):
    """Whether each burst with nothing around it is heard, whatever the looks, the borders and the beginnings."""
    amount, ticks = burst
    habit, width = road.habit, road.width
    watched = alarm.columns * width
    for state, amounts in itertools.product(range(len(habit)), rows_with(road, burst)):
        came = [0, *itertools.accumulate(amounts)]
        for row in walks_from(habit, state, habit.hole + ticks + watched + width):
            looks = sums(row)
            for begin, phase in itertools.product(range(row[0]), range(width)):
                most = 0
                for border in range(phase, looks[-1], width):
                    if border - watched >= looks[1]:
                        break
                    ends = [max([look for look in looks if look <= max(0, at)]) for at in (border - watched, border)]
                    up_to = [came[max(0, min(end - begin, ticks))] for end in ends]
                    most = max(most, up_to[1] - up_to[0])
                if min(counts_of(road.whole, most)) < alarm.on:
                    return False
    return True


class TestHeard(Case):
    def test_over_all_bursts(self):
        counts = {kind: 0 for kind in (Never, Uncovered, Heard, Missed)}
        for seed in range(150):
            dice = random.Random(seed)
            road = some_road(dice)
            alarm = Alarm(dice.randint(1, 4), dice.randint(1, 3))
            burst = (dice.randint(1, 4), dice.randint(1, 3))
            told = heard(road, alarm, burst)
            counts[type(told)] += 1
            self.assertIs(type(told) is Never, rows_with(road, burst) == [])
            if type(told) is not Never and type(told) is not Uncovered:
                self.assertIs(bool(told), is_heard(road, alarm, burst), (seed, str(road.train), burst))
            self.check(road, alarm, burst, told)
        self.assertGreater(min(counts.values()), 5)

    def check(self, road, alarm, burst, told):
        amount, ticks = burst
        self.assertIs(bool(told), isinstance(told, (Never, Heard)))
        self.assertIs(shows_heard(road, alarm, burst, told), True)
        covered = covers(road.habit, road.width, alarm.columns, ticks)
        if isinstance(told, Never):
            self.alike(told.cover, road.pace.covering(ticks))
        elif isinstance(told, Heard):
            self.alike(told.table, covered.table)
        elif isinstance(told, Uncovered):
            self.assertTrue(told == covered)
        else:
            self.assertTrue(len(told.amounts) == ticks and sum(told.amounts) == amount)
            self.assertIn(told.amounts, all_rows(road.pace, ticks, amount))
            self.assertLess(Shaft(road.whole, *told.beginnings).move(amount), alarm.on)

    def test_the_first_that_applies(self):
        road = ROAD.changed(width=1)
        self.assertEqual(heard(road, Alarm(1, 10 ** 20), (13, 7)), Never((0, 2)))
        self.assertIsInstance(heard(road, Alarm(1, 10 ** 20), (12, 7)), Uncovered)
        self.assertIsInstance(heard(road, Alarm(40, 10 ** 20), (12, 7)), Missed)
        self.assertIsInstance(heard(road, Alarm(40, 2), (12, 7)), Heard)
        self.assertIsInstance(heard(road=road, alarm=Alarm(40, 3), burst=(12, 7)), Missed)

    def test_great_bursts(self):
        road = Road(Train(*[Gear(60, 1)] * 5), Pace((1, 10 ** 6)), Habit.steady(1), zoom=Gear(60, 1), width=20)
        for burst in ((2 * 10 ** 8, 200), (10 ** 6, 1)):
            self.assertIsInstance(heard(road, Alarm(50, 10 ** 6 * 60 ** 6), burst), Heard)
        self.assertIsInstance(heard(road, Alarm(50, 1), (10 ** 9, 200)), Never)
        self.assertIsInstance(heard(road, Alarm(50, 10 ** 20), (2 * 10 ** 8, 200)), Missed)
        self.assertEqual(level_for(road, (2 * 10 ** 8, 200)), 2 * 10 ** 8 * 60 ** 6)

    def test_level_for(self):
        for seed in range(100):
            dice = random.Random(seed)
            road = some_road(dice)
            burst = (dice.randint(1, 8), dice.randint(1, 4))
            alarms = [Alarm(40, on) for on in range(1, 20)]
            on = [alarm.on for alarm in alarms if isinstance(heard(road, alarm, burst), Heard)]
            if on:
                self.alike(level_for(road, burst), max(on))
            else:
                self.fails(Nothing(), level_for, road, burst)

    def test_errors_in_their_order(self):
        closed = ROAD.changed(display=Restarting())
        for wrong in NO_ALARMS:
            for asked in (heard, spares):
                self.fails(BadRoad("road"), asked, wrong, wrong, wrong)
                self.fails(BadAlarm("alarm"), asked, closed, wrong, wrong)
            self.fails(BadRoad("road"), tells, wrong, wrong)
            self.fails(BadRoad("road"), calm, wrong, wrong)
            self.fails(BadRoad("road"), surely, wrong, wrong, wrong)
            self.fails(BadRoad("road"), level_for, wrong, wrong)
            self.fails(BadRoad("road"), longest_wait, wrong)
            self.fails(BadRoad("road"), levels, wrong, wrong, wrong, wrong)
            self.fails(BadAlarm("alarm"), tells, closed, wrong)
            self.fails(BadAlarm("alarm"), calm, closed, wrong)
            self.fails(BadAlarm("alarm"), surely, closed, wrong, wrong)
            self.fails(BadRoad("road"), shows_heard, wrong, wrong, wrong, wrong)
            self.fails(BadRoad("road"), shows_tells, wrong, wrong, wrong)
            self.fails(BadRoad("road"), shows_surely, wrong, wrong, wrong, wrong)
            self.fails(BadAlarm("alarm"), shows_heard, closed, wrong, wrong, wrong)
            self.fails(BadAlarm("alarm"), shows_tells, closed, wrong, wrong)
            self.fails(BadAlarm("alarm"), shows_surely, closed, wrong, wrong, wrong)
        for wrong in NO_BURSTS:
            self.fails(BadAlarm("burst"), heard, closed, Alarm(1, 1), wrong)
            self.fails(BadAlarm("burst"), shows_heard, closed, Alarm(1, 1), wrong, None)
            self.fails(BadAlarm("burst"), level_for, closed, wrong)
            self.fails(BadAlarm("quiet"), spares, closed, Alarm(1, 1), wrong)
            self.fails(BadAlarm("burst"), levels, closed, 1, wrong, wrong)
            self.fails(BadAlarm("quiet"), levels, closed, 1, (1, 1), wrong)
        for wrong in OTHERS + [0, 51]:
            self.fails(BadNumber(wrong), levels, closed, wrong, None, None)
        for wrong in OTHERS + [0, 201]:
            self.fails(BadNumber(wrong), surely, closed, Alarm(1, 1), wrong)
            self.fails(BadNumber(wrong), shows_surely, closed, Alarm(1, 1), wrong, None)

    def asked(self, road, alarm):
        """All questions of a road with an alarm."""
        return [(heard, road, alarm, (1, 1)), (tells, road, alarm), (surely, road, alarm, 1), (spares, road, alarm, (1, 1)),
                (levels, road, alarm.columns, (1, 1), (1, 1)), (calm, road, alarm), (shows_heard, road, alarm, (1, 1), None),
                (shows_tells, road, alarm, None), (shows_surely, road, alarm, 1, None)]

    def alone(self, road):
        """All questions of a road without an alarm."""
        return [(columns_for, road, 1), (level_for, road, (11, 7)), (longest_wait, road)]

    def test_of_which_roads_it_is_asked(self):
        unsure = [Restarting(), Wrapping(2), Dials(2, 1 + 1)]
        tiers = Tiers((1, 2), (2, 5))
        for display in unsure:
            road = ROAD.changed(display=display, tiers=tiers, width=1000)
            for question in self.asked(road, Alarm(2, 1)) + self.alone(road):
                self.fails(BadRoad("display"), *question)
        # In a hole of three ticks at most two marks are passed.
        for display in (Wrapping(3), Plain(), Dials(3), Dials(2, 3)):
            road = ROAD.changed(display=display, tiers=tiers, width=1000)
            for question in self.asked(road, Alarm(2, 1)):
                self.fails(TooMany("ticks", 1000), *question)
            for question in self.asked(road, Alarm(1, 1)):
                self.fails(BadAlarm("columns"), *question)
            for question in self.alone(road):
                question[0](*question[1:])
        for keep in (12, 13):
            road = ROAD.changed(tiers=Tiers((1, keep), (2, 100)))
            for question in self.asked(road, Alarm(2, 1)):
                self.fails(BadAlarm("columns"), *question)
        road = ROAD.changed(tiers=Tiers((1, 14), (2, 100)))
        for question in self.asked(road, Alarm(2, 1)):
            question[0](*question[1:])
        road = ROAD.changed(width=20, tiers=None)
        for question in self.asked(road, Alarm(50, 1)):
            question[0](*question[1:])
        for question in self.asked(ROAD.changed(width=21), Alarm(48, 1)):
            self.fails(TooMany("ticks", 1000), *question)

    def test_longest_wait(self):
        self.alike(longest_wait(ROAD), 3 + 6 - 2 + 1)
        looks = Looks(3, 0, 2, losses=Losses((0, 1), (0, None)))
        road = ROAD.changed(looks=looks)
        self.alike(longest_wait(road), 6 + 6 - 2 + 7)


def most_in(row, ticks):
    """The most of a row in any so many ticks, of all of them if they are fewer."""
    return max(sum(row[at:at + ticks]) for at in range(max(1, len(row) - ticks + 1)))


class TestTells(Case):
    def test_over_all_that_comes(self):
        for seed in range(120):
            dice = random.Random(seed)
            road = some_road(dice)
            alarm = Alarm(dice.randint(1, 2), dice.randint(1, 4))
            span = max(spans(road.habit, alarm.columns * road.width))
            rows = all_rows(road.pace, span, 2)
            goes = [row for row in rows if max(counts_of(road.whole, sum(row))) >= alarm.on]
            told = tells(road, alarm)
            self.assertIs(shows_tells(road, alarm, told), True)
            if not goes:
                self.assertTrue(told == Silent(road.pace.covering(span)) and not told)
                for ticks in (1, 3):
                    self.fails(Nothing(), surely, road, alarm, ticks)
                    self.assertIs(spares(road, alarm, (10 ** 9, ticks)), True)
                continue
            self.assertTrue(told and told == Tells(min(sum(row) for row in goes), span))
            for ticks in (1, 2, 3, 5, 9):
                sure = surely(road, alarm, ticks)
                least = min(most_in(row, ticks) for row in goes)
                self.alike(sure.amount, least)
                self.check(road, alarm, ticks, told, sure)
                for amount in (1, least - 1, least, least + 1):
                    if amount > 0:
                        self.assertIs(spares(road, alarm, (amount, ticks)), amount <= least)

    def check(self, road, alarm, ticks, told, sure):
        self.assertTrue(bool(sure) and not isinstance(sure, Verdict))
        self.assertTrue(len(sure.amounts) == told.span and sum(sure.amounts) == told.amount)
        self.assertTrue(all(sum(sure.amounts[at:at + span]) <= most for span, most in road.pace.rules
                            for at in range(told.span)))
        self.assertLessEqual(most_in(sure.amounts, ticks), sure.amount)
        self.assertGreaterEqual(Shaft(road.whole, *sure.beginnings).move(told.amount), alarm.on)
        if sure.amount == 1:
            self.assertIsNone(sure.cover)
        else:
            rules = [*road.pace.rules, (ticks, sure.amount - 1)]
            self.assertEqual(len(sure.cover), len(rules))
            self.assertGreaterEqual(sum(many * rule[0] for many, rule in zip(sure.cover, rules)), told.span)
            self.assertLess(sum(many * rule[1] for many, rule in zip(sure.cover, rules)), told.amount)
        self.assertIs(shows_surely(road, alarm, ticks, sure), True)
        self.assertEqual(surely(road=road, alarm=alarm, ticks=ticks), sure)

    def test_levels(self):
        found = 0
        for seed in range(150):
            dice = random.Random(seed)
            road, columns = some_road(dice), dice.randint(3, 9)
            burst, quiet = (dice.randint(3, 9), dice.randint(4, 8)), (dice.randint(1, 3), dice.randint(1, 4))
            alarms = [Alarm(columns, on) for on in range(1, 25)]
            fits = [alarm.on for alarm in alarms if isinstance(heard(road, alarm, burst), Heard)
                    and spares(road, alarm, quiet)]
            told = levels(road, columns, burst, quiet)
            self.alike(told, (fits[0], fits[-1]) if fits else None)
            if fits:
                self.assertEqual(fits, list(range(fits[0], fits[-1] + 1)))
                found += 1
        self.assertGreater(found, 20)

    def test_calm(self):
        for seed in range(60):
            dice = random.Random(seed)
            road = some_road(dice)
            on = dice.randint(1, 9)
            alarm = Alarm(dice.randint(1, 9), on, dice.randint(1, on))
            need = road.whole.first(alarm.on - alarm.off + 1)
            k = 1
            while road.pace.top(max(spans(road.habit, k * road.width))) < need:
                k += 1
            self.alike(calm(road, alarm), k)
        slow = Road(Train(), Pace((1, 1)), Habit.steady(1), width=3)
        self.alike(calm(slow, Alarm(1, 999, 1)), 333)
        self.fails(TooMany("ticks", 1000), calm, slow, Alarm(1, 1000, 1))
        self.fails(TooMany("ticks", 1000), calm, slow, Alarm(1, 10 ** 20, 1))
        self.alike(calm(slow.changed(width=1), Alarm(1, 1000, 1)), 1000)
        self.alike(calm(slow.changed(width=1000), Alarm(1, 1000, 1)), 1)

    def test_long_spans(self):
        road = Road(Train(Wheel(5), Divider(3)), Pace((1, 10), (60, 100)), Habit.missing(50, 3), width=20)
        for on in (1, 2, 100, 130):
            alarm = Alarm(50, on)
            told = tells(road, alarm)
            self.assertEqual(told.span, 1150)
            for ticks in (1, 7, 60, 199, 200):
                self.check(road, alarm, ticks, told, surely(road, alarm, ticks))
        self.assertIsInstance(tells(road, Alarm(50, 10 ** 20)), Silent)


def changed(papers, part, value):
    """A paper with one attribute otherwise."""
    told = {name: value if name == part else old for name, old in vars(papers).items()}
    return type(papers)(**told)


class TestLooks(Case):
    def test_tables(self):
        habit = Habit(((2, 0), (3, 1)), ((1, 0),))
        table = covers(habit, 2, 4, 5).table
        self.assertEqual(table, ((0, 3, 3, 5, 5), (0, 1, 4, 4, 6)))
        for state, r in itertools.product(range(2), range(5)):
            for step in (-1, 1, 5):
                row = list(table[state])
                row[r] += step
                rows = [tuple(row) if at == state else other for at, other in enumerate(table)]
                self.assertIs(shows_covers(habit, 2, 4, 5, Covers(tuple(rows))), self.follows(habit, rows, 6))
            for wrong in (True, None, "3", -1, 10 ** 9 + 1, 3.0):
                row = list(table[state])
                row[r] = wrong
                rows = [tuple(row) if at == state else other for at, other in enumerate(table)]
                self.assertIs(shows_covers(habit, 2, 4, 5, Covers(tuple(rows))), False)
        high = (10 ** 9, 10 ** 9 - 9, 10 ** 9 - 6, 10 ** 9 - 3, 6)
        self.assertIs(shows_covers(habit, 2, 4, 5, Covers((high, table[1]))), False)
        self.assertIs(shows_covers(habit, 2, 5, 5, Covers(((0, 3, 5, 6, 7), (10 ** 9, 1, 4, 6, 8)))), True)
        self.assertIs(shows_covers(habit, 2, 4, 5, Covers(((10 ** 9, *table[0][1:]), table[1]))), True)
        for wrong in OTHERS + [list(table), table[:1], (*table, table[0]), (list(table[0]), table[1]),
                               (table[0][:-1], table[1]), ((*table[0], 6), table[1])]:
            self.assertIs(shows_covers(habit, 2, 4, 5, Covers(wrong)), False)
        self.assertIs(shows_covers(habit, 2, 4, 5, Covers(table)), True)
        self.assertIs(shows_covers(habit, 2, 3, 5, Covers(table)), False)
        self.assertIs(shows_covers(habit, 2, 4, 5, Heard(table)), False)
        # For one tick the number at r 0 itself may not be above the distance.
        self.assertIs(shows_covers(habit, 2, 2, 1, Covers(((2,), (1,)))), True)
        self.assertIs(shows_covers(habit, 2, 2, 1, Covers(((3,), (0,)))), False)
        for other in OTHERS + [5, table]:
            self.assertIs(shows_covers(habit, 2, 4, 5, other), False)

    def follows(self, habit, table, distance):
        """By the words of the document, number by number."""
        for state, row in enumerate(table):
            if row[-1] > distance or min(row) < 0:
                return False
            for r in range(1, len(row)):
                for length, after in habit[state]:
                    if row[r] < (length if length >= r else length + table[after][r - length]):
                        return False
        return True

    def test_lengths(self):
        habit = Habit.missing(3, 1)
        for ticks, columns, lengths, wanted in [
                (8, 2, (6, 6), True), (8, 2, (3, 3, 3), True), (8, 2, (3, 3, 6), True), (8, 2, (6, 3), True),
                (8, 2, (3, 3), False), (8, 2, (6, 3, 3), False), (8, 2, (6, 5), False), (8, 3, (6, 3), True),
                (8, 3, (6, 6), True), (8, 4, (6, 6), True), (8, 5, (6, 6), False), (7, 2, (6,), True), (7, 3, (6,), False),
                (7, 2, (3, 3), True), (2, 1, (3,), True), (1, 1, (3,), False), (1, 1, (), False), (2, 1, (), False)]:
            self.assertIs(shows_covers(habit, 3, columns, ticks, Uncovered(lengths)), wanted, (ticks, columns, lengths))
            self.assertIs(shows_covers(habit, 3, columns, ticks, Uncovered(list(lengths))), False)
        for wrong in OTHERS + [5, (6, True), (6, 3.0)]:
            self.assertIs(shows_covers(habit, 3, 2, 8, Uncovered(wrong)), False)

    def test_what_is_heard(self):
        road = Road(Train(Wheel(5)), Pace((1, 3), (4, 6)), Habit.steady(3), width=6)
        never, none = Never((0, 2)), heard(road, Alarm(1, 1), (11, 7))
        right, missed = heard(road, Alarm(2, 2), (11, 7)), heard(road, Alarm(2, 3), (11, 7))
        papers = [never, none, right, missed, Covers(right.table), Silent((0, 2))]
        for alarm, burst, wanted in [(Alarm(2, 2), (13, 7), never), (Alarm(1, 1), (11, 7), none),
                                     (Alarm(2, 2), (11, 7), right), (Alarm(2, 3), (11, 7), missed)]:
            for paper in papers:
                self.assertIs(shows_heard(road, alarm, burst, paper), paper is wanted)
            for other in OTHERS + [5]:
                self.assertIs(shows_heard(road, alarm, burst, other), False)
        for cover, wanted in [((7, 0), False), ((0, 2), True), ((1, 2), False), ((4, 1), False), ((3, 1), False),
                              ([0, 2], False), ((0, 2, 0), False), ((False, 2), False), ((0, 1), False), (None, False),
                              ((-1, 2), False)]:
            self.assertIs(shows_heard(road, Alarm(2, 2), (13, 7), Never(cover)), wanted, cover)
        self.assertIs(shows_heard(road, Alarm(2, 2), (14, 7), Never((4, 0))), False)
        self.assertIs(shows_heard(road, Alarm(2, 2), (10 ** 9, 7), Never((10 ** 7, 0))), True)
        self.assertIs(shows_heard(road, Alarm(2, 2), (10 ** 9, 7), Never((10 ** 9 + 1, 0))), False)
        for amounts, beginnings, wanted in [((3, 3, 0, 0, 3, 2, 0), (0, 0), True), ((3, 3, 0, 0, 3, 2, 0), (4, 0), False),
                                            ((3, 3, 0, 0, 3, 2, 0), (3, 0), True), ((3, 3, 1, 0, 2, 2, 0), (0, 0), False),
                                            ((3, 3, 0, 0, 3, 1, 0), (0, 0), False), ((3, 3, 0, 0, 3, 2), (0, 0), False),
                                            ([3, 3, 0, 0, 3, 2, 0], (0, 0), False), ((3, 3, 0, 0, 3, 3, -1), (0, 0), False),
                                            ((3, 3, 0, 0, 3, 2, False), (0, 0), False), ((4, 2, 0, 0, 3, 2, 0), (0, 0), False),
                                            ((3, 3, 0, 0, 3, 2, 0), (0,), False), ((3, 3, 0, 0, 3, 2, 0), [0, 0], False),
                                            ((3, 3, 0, 0, 3, 2, 0), (5, 0), False), ((3, 3, 0, 0, 3, 2, 0), None, False)]:
            self.assertIs(shows_heard(road, Alarm(2, 3), (11, 7), Missed(amounts, beginnings)), wanted, (amounts, beginnings))
        self.assertIs(shows_heard(road, Alarm(2, 2), (11, 7), Missed((3, 3, 0, 0, 3, 2, 0), (0, 0))), False)
        self.assertIs(shows_heard(road, Alarm(1, 3), (11, 7), Missed((3, 3, 0, 0, 3, 2, 0), (0, 0))), False)
        self.assertIs(shows_heard(road, Alarm(2, 2), (11, 7), changed(right, "table", ((0, 3, 3, 3, 6, 6, 7),))), False)
        self.assertIs(shows_heard(road, Alarm(2, 2), (11, 7), changed(right, "table", ((9, 8, 7, 7, 6, 6, 6),))), False)
        self.assertIs(shows_heard(road, Alarm(2, 2), (11, 7), changed(right, "table", ((9, 6, 6, 6, 6, 6, 6),))), False)
        self.assertIs(shows_heard(road, Alarm(2, 2), (11, 7), changed(right, "table", ((9, 3, 3, 3, 6, 6, 6),))), True)

    def test_what_is_told(self):
        road = Road(Train(Wheel(5)), Pace((1, 3), (4, 6)), Habit.steady(3), width=6)
        alarm = Alarm(2, 2)
        right = Tells(6, 12)
        self.assertIs(shows_tells(road, alarm, right), True)
        for amount, span in [(5, 12), (7, 12), (6, 11), (6, 13), (True, 12), (6, None), ("6", 12), (6.0, 12), (6, 12.0)]:
            self.assertIs(shows_tells(road, alarm, Tells(amount, span)), False)
        for other in OTHERS + [5, Silent((0, 3)), Never((0, 3)), (6, 12)]:
            self.assertIs(shows_tells(road, alarm, other), False)
        silent = Alarm(2, 5)
        # Of five marks the first four teeth and one unit more are needed, 21; in twelve ticks 18 come.
        self.assertIs(shows_tells(road, silent, Silent((0, 3))), True)
        self.assertIs(shows_tells(road, silent, Silent((4, 2))), False)
        self.assertIs(shows_tells(road, silent, Tells(21, 12)), False)
        for cover in [(0, 2), (12, 0), (1, 3), [0, 3], (0, 3, 0), (0, True), None, (-1, 4)]:
            self.assertIs(shows_tells(road, silent, Silent(cover)), cover == (12, 0) and False)
        self.assertIs(shows_tells(road, Alarm(2, 10 ** 9), Silent((12, 0))), True)

    def test_what_surely_came(self):
        road = Road(Train(Wheel(5)), Pace((1, 3), (4, 6)), Habit.steady(3), width=6)
        alarm, right = Alarm(2, 2), surely(ROAD, Alarm(2, 2), 4)
        self.assertEqual((right.amount, len(right.cover)), (2, 3))
        self.assertIs(shows_surely(road, alarm, 4, right), True)
        for part, values in {"amount": OTHERS + [1, 3, 2.0, 0, -1], "cover": OTHERS + [[0, 0, 3], (0, 0, 2), (0, 1, 2), (0, 0),
                             (0, 0, 3, 0), (0, 0, True), (0, 0, 6), (2, 0, 3), (0, 0, 10 ** 9 + 1), (0, -1, 4)],
                             "amounts": OTHERS + [list(right.amounts), right.amounts[1:], (0,) * 12, (1,) * 12,
                                                  (2, 0, 0, 0, 2, 0, 0, 2, 0, 0, 0, 0), (3, 0, 0, 0, 3, 0, 0, 0, 0, 0, 0, 0),
                                                  (2, 0, 0, 0, 2, 0, 0, 0, 2, 0, 0, False)],
                             "beginnings": OTHERS + [(3, 0), (0, 0), (4,), [4, 0], (4, 0, 0), (4, 1), (5, 0)]}.items():
            for value in values:
                self.assertIs(shows_surely(road, alarm, 4, changed(right, part, value)), False, (part, value))
        for part, value in [("amounts", (2, 0, 0, 0, 2, 0, 0, 0, 2, 0, 0, 0)), ("amounts", (0, 1, 0, 1, 0, 1, 0, 1, 0, 1, 0, 1)),
                            ("cover", (0, 0, 4)), ("cover", (0, 0, 5)), ("cover", (1, 0, 3 - 1)), ("cover", right.cover)]:
            wanted = value != (1, 0, 2)
            self.assertIs(shows_surely(road, alarm, 4, changed(right, part, value)), wanted, value)
        wide = Surely(3, (0, 0, 3), (3, 0, 0, 0, 3, 0, 0, 0, 0, 0, 0, 0), (4, 0))
        self.assertIs(shows_surely(road, alarm, 4, wide), False)
        one = surely(road, Alarm(2, 1), 4)
        self.assertEqual((one.amount, one.cover), (1, None))
        self.assertIs(shows_surely(road, Alarm(2, 1), 4, one), True)
        for cover in ((0, 0, 3), (), 0, False):
            self.assertIs(shows_surely(road, Alarm(2, 1), 4, changed(one, "cover", cover)), False)
        for other in OTHERS + [5, Tells(6, 12)]:
            self.assertIs(shows_surely(road, alarm, 4, other), False)
        for paper in (right, wide, one):
            self.assertIs(shows_surely(road, Alarm(2, 5), 4, paper), False)

    def test_papers(self):
        for kind, parts, truth in [(Covers, ["table"], True), (Uncovered, ["lengths"], False), (Never, ["cover"], True),
                                   (Heard, ["table"], True), (Missed, ["amounts", "beginnings"], False),
                                   (Tells, ["amount", "span"], True), (Silent, ["cover"], False),
                                   (Surely, ["amount", "cover", "amounts", "beginnings"], True)]:
            values = [[k] for k in range(len(parts))]
            paper = kind(**dict(zip(parts, values)))
            for part, value in zip(parts, values):
                self.assertIs(getattr(paper, part), value)
            self.assertIs(bool(paper), truth)
            self.assertIs(isinstance(paper, Verdict), kind is not Surely)
            self.assertTrue(paper == kind(*[[k] for k in range(len(parts))]))
            for at in range(len(parts)):
                self.assertFalse(paper == kind(*[None if k == at else values[k] for k in range(len(parts))]))
            for other in (Covers([0]), Heard([0]), Never([0]), Silent([0]), Uncovered([0]), [0], None):
                self.assertIs(paper == other, type(other) is kind)


if __name__ == "__main__":
    unittest.main()
