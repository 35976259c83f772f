"""How far the looks of a habit can lie behind one another."""

import itertools
import unittest

from gaugeroad.errors import BadHabit, BadNumber, NoState
from gaugeroad.habits import Habit
from gaugeroad.lags import Reach, beyond, hole_walk, reach, reach_rows, span_walk, spans
from gaugeroad.look_lags import shows_reach, shows_span
from gaugeroad.looks import Looks
from gaugeroad.verdicts import Verdict
from helpers import OTHERS, Case
from test_habits import some


def walks_from(habit, state, ticks):
    """The lengths of all walks from a state that just pass so many ticks."""
    found, ahead = [], [((), state)]
    while ahead:
        row, at = ahead.pop()
        for length, after in habit.states[at]:
            longer = (*row, length)
            if sum(longer) > ticks:
                found.append(longer)
            else:
                ahead.append((longer, after))
    return found


def sums(row):
    return [0, *itertools.accumulate(row)]


def wanted_spans(habit, length):
    """By the words of `spans`, over all walks."""
    rows = [row for state in range(len(habit)) for row in walks_from(habit, state, habit.hole + length)]
    told = []
    for lag in range(habit.hole):
        fits = [row for row in rows if row[0] > lag]
        told.append(max(max(look for look in sums(row) if look <= lag + length) for row in fits))
    return tuple(told)


class TestLags(Case):
    def test_over_all_walks(self):
        for seed in range(30):
            habit = some(seed)
            for state, ticks in itertools.product(range(len(habit)), range(9)):
                rows = [sums(row) for row in walks_from(habit, state, ticks)]
                self.alike(reach(habit, state, ticks), max(max(k for k in row if k <= ticks) for row in rows))
                self.alike(beyond(habit, state, ticks), max(min(k for k in row if k >= ticks) for row in rows))
            told = reach_rows(habit, 8)
            self.alike(told.rows, tuple(tuple(reach(habit, state, r) for r in range(9)) for state in range(len(habit))))
            self.assertIs(shows_reach(habit, 8, told), True)
            for length in range(7):
                self.alike(spans(habit, length), wanted_spans(habit, length))

    def test_walks_are_shown(self):
        for seed in range(60):
            habit = some(seed, states=4, length=6)
            for length in range(14):
                told = spans(habit, length)
                for lag, span in enumerate(told):
                    row = span_walk(habit, lag, length)
                    self.alike(row, span_walk(habit=habit, lag=lag, length=length))
                    self.assertIs(shows_span(habit, lag, length, span, row), True)
                    self.assertTrue(row in habit and row[0] > lag and sum(row[:-1]) == span)
                    self.assertTrue(sum(row) > lag + length >= span)
                row = hole_walk(habit, length)
                self.assertTrue(row in habit and row[-1] == habit.hole)
                if length < habit.hole:
                    self.alike(row, (habit.hole,))
                else:
                    self.assertTrue(sum(row[1:-1]) < length - habit.hole + 1 <= sum(row[:-1]))

    def test_all_small_rows_are_looked_at(self):
        habit = Habit.missing(1, 1) | Habit.steady(3)
        for lag, length in itertools.product(range(3), range(5)):
            for many in range(5):
                for row in itertools.product((1, 2, 3), repeat=many):
                    for span in range(6):
                        wanted = (many > 0 and row in habit and row[0] > lag and sum(row[:-1]) == span
                                  and span <= lag + length < sum(row))
                        self.assertIs(shows_span(habit, lag, length, span, row), wanted)
        steady = Habit.steady(2)
        self.assertIs(shows_span(habit=steady, lag=1, length=3, span=4, value=(2, 2, 2)), True)
        self.assertIs(shows_span(steady, 1, 3, 10 ** 6, (2, 2, 2)), False)
        for wrong in OTHERS + [[2, 2, 2], (2, 2, "2"), (2, 2), (2, 2, 2, 2), (True, 2), 5]:
            self.assertIs(shows_span(steady, 1, 3, 4, wrong), False)
        self.assertIs(shows_span(Habit.steady(1), 0, 0, 0, (True,)), False)

    def test_all_small_reaches_are_looked_at(self):
        habit = Habit(((1, 1),), ((2, 0), (1, 0)))
        right = reach_rows(habit, 2).rows
        self.alike(right, ((0, 1, 2), (0, 1, 2)))
        for numbers in itertools.product(range(4), repeat=6):
            rows = (numbers[:3], numbers[3:])
            wanted = (numbers[1] >= 1 + numbers[3] and numbers[2] >= 1 + numbers[4]
                      and numbers[4] >= 1 + numbers[0] and numbers[5] >= max(2 + numbers[0], 1 + numbers[1]))
            self.assertIs(shows_reach(habit, 2, Reach(rows)), wanted)
            self.assertTrue(not wanted or all(a >= b for one, other in zip(rows, right) for a, b in zip(one, other)))
        steady = Habit.steady(2)
        self.assertIs(shows_reach(habit=steady, ticks=2, value=Reach(((0, 0, 2),))), True)
        for rows in OTHERS + [((0, 0, 1),), ([0, 0, 2],), [(0, 0, 2)], ((0, 0),), ((0, 0, 2, 2),), ((0, 0, 2), (0, 0, 2)),
                              ((0, False, 2),), ((-1, 0, 2),), ((0, -1, 2),), ((0, None, 2),), ((0, "0", 2),), (5,)]:
            self.assertIs(shows_reach(steady, 2, Reach(rows)), False)
            self.assertIs(shows_reach(steady, 2, rows), False)
        self.assertIs(shows_reach(steady, 2, Reach(((10 ** 41, 7, 10 ** 41 + 2),))), True)
        self.assertIs(shows_reach(steady, 0, reach_rows(steady, 0)), True)
        self.alike(reach_rows(steady, 0).rows, ((0,),))
        for row in ((0, 1), (0, True, 2), (0, 1, None), [0, 1, 2]):
            self.assertIs(shows_reach(habit, 2, Reach(((0, 1, 2), row))), False)
            self.assertIs(shows_reach(habit, 2, Reach((row, (0, 1, 2)))), False)

    def test_edges(self):
        for habit in (Habit.steady(1), Habit.missing(50, 3), Looks(60, 0, late=59).known(), some(3, length=200)):
            told = spans(habit=habit, length=1000)
            self.assertEqual(len(told), habit.hole)
            for lag in (0, habit.hole // 2, habit.hole - 1):
                row = span_walk(habit, lag, 1000)
                self.assertIs(shows_span(habit, lag, 1000, told[lag], row), True)
            self.assertEqual(hole_walk(habit=habit, length=1000)[-1], habit.hole)
            self.alike(spans(habit, 0), (0,) * habit.hole)
            self.alike((reach(habit, 0, 0), beyond(habit, 0, 0)), (0, 0))
            if len(habit) < 9:
                self.assertIs(shows_reach(habit, 1000, reach_rows(habit=habit, ticks=1000)), True)
                self.assertTrue(0 <= 1000 - reach(habit=habit, state=0, ticks=1000) < habit.hole)
                self.assertTrue(0 <= beyond(habit=habit, state=0, ticks=1000) - 1000 < habit.hole)

    def test_papers(self):
        self.alike((Reach(rows=[1]).rows, bool(Reach(None)), isinstance(Reach(0), Verdict)), ([1], True, False))
        self.assertEqual(Reach((1, 2)), Reach((True, 2)))
        self.assertNotEqual(Reach((1, 2)), Reach([1, 2]))
        self.assertNotEqual(Reach(()), ())

    def test_errors_in_their_order(self):
        habit = Habit.steady(3)
        for wrong in OTHERS + [5, ((3, 0),)]:
            self.fails(BadHabit(None), reach, wrong, wrong, wrong)
            self.fails(BadHabit(None), beyond, wrong, wrong, wrong)
            self.fails(BadHabit(None), spans, wrong, wrong)
            self.fails(BadHabit(None), span_walk, wrong, wrong, wrong)
            self.fails(BadHabit(None), hole_walk, wrong, wrong)
            self.fails(BadHabit(None), reach_rows, wrong, wrong)
            self.fails(BadHabit(None), shows_reach, wrong, wrong, wrong)
            self.fails(BadHabit(None), shows_span, wrong, wrong, wrong, wrong, wrong)
        for wrong in OTHERS + [-1, 1]:
            self.fails(NoState(wrong), reach, habit, wrong, wrong)
            self.fails(NoState(wrong), beyond, habit, wrong, wrong)
        for wrong in OTHERS + [-1, 1001]:
            self.fails(BadNumber(wrong), reach, habit, 0, wrong)
            self.fails(BadNumber(wrong), beyond, habit, 0, wrong)
            self.fails(BadNumber(wrong), spans, habit, wrong)
            self.fails(BadNumber(wrong), span_walk, habit, 2, wrong)
            self.fails(BadNumber(wrong), hole_walk, habit, wrong)
            self.fails(BadNumber(wrong), reach_rows, habit, wrong)
            self.fails(BadNumber(wrong), shows_reach, habit, wrong, wrong)
            self.fails(BadNumber(wrong), shows_span, habit, 2, wrong, None, None)
        for wrong in OTHERS + [-1, 3]:
            self.fails(BadNumber(wrong), span_walk, habit, wrong, None)
            self.fails(BadNumber(wrong), shows_span, habit, wrong, None, None, None)
        for wrong in OTHERS + [-1, 10 ** 6 + 1]:
            self.fails(BadNumber(wrong), shows_span, habit, 2, 0, wrong, None)


if __name__ == "__main__":
    unittest.main()
