"""Rows of looks as they come."""

import itertools
import random
import unittest

from gaugeroad.errors import BadNumber, BadPlay, RoadError
from gaugeroad.habits import Habit
from gaugeroad.lines import Line
from gaugeroad.looks import Looks
from gaugeroad.losses import Losses
from helpers import OTHERS, Case
from test_habits import some
from test_habits import walks_of

FAR = 10 ** 30


def outcome(work, *args):
    """What a call returns, or its error."""
    try:
        return work(*args)
    except RoadError as error:
        return type(error).__name__, tuple(vars(error).values())


def rows_of_looks(looks, many, begin):
    """All moments of looks 0 to many - 1, the first of them at begin, gone through by shift and lateness."""
    found = set()
    for lates in itertools.product(range(looks.late + 1), repeat=many):
        found.add(tuple(begin - lates[0] + k * looks.period + late for k, late in enumerate(lates)))
    return found


class TestLines(Case):
    def test_scheduled_looks_over_all_rows(self):
        for period, late in [(1, 0), (2, 1), (3, 1), (3, 2), (4, 3)]:
            looks = Looks(period, 0, late=late)
            rows = rows_of_looks(looks, 4, 5)
            ahead = [(5,)]
            while ahead:
                taken = ahead.pop()
                fits = sorted({row[len(taken)] for row in rows if row[:len(taken)] == taken})
                line = Line(looks, 5)
                for moment in taken[1:]:
                    line.look(moment)
                self.assertEqual((line.due, line.now), (max(fits), taken[-1]))
                self.alike(line.taken, tuple((moment, True) for moment in taken))
                for moment in range(taken[-1], max(fits) + 3):
                    told = outcome(line.twin().look, moment)
                    if moment in fits:
                        self.alike(told, (moment,))
                    else:
                        self.alike(told, ("BadPlay", ("late" if moment > max(fits) else "early",)))
                if len(taken) < 3:
                    ahead.extend((*taken, moment) for moment in fits)

    def test_habits_over_all_walks(self):
        for seed in range(25):
            habit = some(seed)
            ahead = [()]
            while ahead:
                lengths = ahead.pop()
                rows = walks_of(habit, len(lengths) + 1)
                fits = {row[-1] for row in rows if row[:-1] == lengths}
                line, last = Line(habit, -3), -3
                for length in lengths:
                    last += length
                    self.alike(line.look(last), (last,))
                self.assertEqual(line.due, last + max(fits))
                for length in range(max(fits) + 2):
                    told = outcome(line.twin().look, last + length)
                    if length in fits:
                        self.alike(told, (last + length,))
                    else:
                        self.alike(told, ("BadPlay", ("late" if length > max(fits) else "early",)))
                    lost = outcome(line.twin().look, last + length, False)
                    self.alike(lost, ("BadPlay", ("losses",)) if length in fits else told)
                if len(lengths) < 3:
                    ahead.extend((*lengths, length) for length in fits)

    def test_what_becomes_known(self):
        rules = [Losses.none(), Losses.runs(1, 1), Losses.share(2, 3), Losses((1, None), (1, 0)), Losses((0, 0))]
        for rule, ages in itertools.product(rules, [(0,), (0, 1), (0, 2), (0, 1, 3)]):
            looks = Looks(2, *ages, losses=rule)
            for signs in itertools.product((True, False), repeat=6):
                line = Line(looks, 0)
                text, known = ".", {0}
                for k, kept in enumerate(signs, 1):
                    longer = text + (".x"[not kept])
                    if longer not in rule:
                        self.fails(BadPlay("losses"), line.look, 2 * k, kept)
                        break
                    text = longer
                    found = {k - age for age in ages if age <= k} - known if kept else set()
                    self.alike(line.look(2 * k, kept), tuple(2 * at for at in sorted(found)))
                    known |= found

    def test_passing(self):
        line = Line(looks=Looks(3, 0, late=1), begin=0)
        self.alike((line.now, line.due, line.taken), (0, 4, ((0, True),)))
        self.assertIsNone(line.pass_to(2))
        self.assertIsNone(line.pass_to(moment=2))
        self.alike((line.now, line.taken), (2, ((0, True),)))
        self.fails(BadNumber(1), line.pass_to, 1)
        self.fails(BadNumber(1), line.look, 1, None)
        self.fails(BadPlay("late"), line.pass_to, 5)
        self.assertIsNone(line.pass_to(4))
        self.fails(BadPlay("late"), line.look, 5)
        self.alike(line.look(moment=4, kept=True), (4,))
        self.alike((line.now, line.due), (4, 7))
        self.fails(BadPlay("late"), line.pass_to, 8)

    def test_errors_in_their_order(self):
        for wrong in OTHERS + [5, Losses.none()]:
            self.fails(BadPlay("looks"), Line, wrong, wrong)
        for wrong in OTHERS + [FAR + 1, -FAR - 1]:
            self.fails(BadNumber(wrong), Line, Habit.steady(2), wrong)
        self.alike((Line(Habit.steady(2), FAR).due, Line(Habit.steady(2), -FAR).due), (FAR + 2, 2 - FAR))
        line = Line(Looks(3, 0), 0)
        before = (line.now, line.due, line.taken)
        for wrong in OTHERS + [-1, FAR + 1]:
            self.fails(BadNumber(wrong), line.look, wrong, None)
            self.fails(BadNumber(wrong), line.pass_to, wrong)
        for wrong in [None, 0, 1, "", "True", ()]:
            self.fails(BadPlay("kept"), line.look, 9, wrong)
        self.fails(BadPlay("late"), line.look, 4, False)
        self.fails(BadPlay("late"), line.look, FAR, False)
        self.fails(BadPlay("early"), line.look, 2, False)
        self.fails(BadPlay("early"), line.look, 0)
        self.fails(BadPlay("losses"), line.look, 3, False)
        self.alike((line.now, line.due, line.taken), before)
        self.fails(BadNumber(FAR + 2), Line(Habit.steady(2), FAR).look, FAR + 2)

    def test_twins(self):
        dice = random.Random(1)
        for _ in range(20):
            line = Line(Looks(3, 0, 1, late=1, losses=Losses.runs(1, 1)), 0)
            for _ in range(dice.randint(0, 5)):
                line.look(line.due)
            twin = line.twin()
            self.assertTrue(twin == line and line == twin)
            self.assertTrue(twin.looks == line.looks)
            before = (line.now, line.due, line.taken)
            twin.look(twin.due, False)
            self.assertFalse(twin == line)
            self.alike((line.now, line.due, line.taken), before)
            line.look(line.due, False)
            self.assertTrue(twin == line)
            twin.pass_to(twin.now + 1)
            self.assertFalse(twin == line)
        self.assertFalse(Line(Looks(3, 0), 0) == Line(Habit.steady(3), 0))
        self.assertFalse(Line(Habit.steady(3), 0) == Line(Habit.steady(3), 1))
        self.assertFalse(Line(Habit.steady(3), 0) == None)
        one, other = Line(Looks(3, 0, losses=Losses((0, 0))), 0), Line(Looks(3, 0, losses=Losses((0, 0))), 0)
        one.look(3, False)
        other.look(3)
        self.assertFalse(one == other)


if __name__ == "__main__":
    unittest.main()
