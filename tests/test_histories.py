"""Histories."""

import itertools
import random
import unittest

from gaugeroad.errors import BadHistory, BadNumber, BadPace, TooMany
from gaugeroad.histories import History, Steps, Through, barring, breach, fastest
from gaugeroad.paces import Pace
from helpers import OTHERS, Case
from test_paces import keeps

FAR = 10 ** 30
PACE = Pace((1, 3), (4, 6))
NO_POINTS = OTHERS + [(0,), (0, 0, 0), [0, 0], (True, 0), (0, False), (FAR + 1, 0), (-FAR - 1, 0), (0, 10 ** 36 + 1),
                      (0, -10 ** 36 - 1), ("0", 0), (0, None)]


def all_amounts(pace, begin, ticks):
    """The amounts of all histories of so many ticks that keep a pace and begin with an amount."""
    rows = [()]
    most = min(rule[1] for rule in pace.rules if rule[0] == 1)
    for _ in range(ticks):
        rows = [(*row, k) for row in rows for k in range(most + 1) if keeps((*row, k), pace)]
    return [[begin + sum(row[:k]) for k in range(ticks + 1)] for row in rows]


class TestSteps(Case):
    def test_amounts(self):
        went = Steps(-2, 3, 0, 4)
        self.assertEqual([went(t) for t in range(-5, 5)], [0, 0, 0, 0, 3, 3, 7, 7, 7, 7])
        self.assertEqual([went[t] for t in range(-5, 4)], [0, 0, 0, 3, 0, 4, 0, 0, 0])
        self.assertEqual((went.begin, went.amounts, went(t=FAR), went(-FAR), went[FAR]), (-2, (3, 0, 4), 7, 0, 0))
        self.assertEqual(went.row(-3, 2), (0, 3, 0, 4, 0))
        self.assertEqual(went.grown(a=-2, b=1), 7)
        self.assertEqual(Steps(begin=5)(9), 0)
        self.assertEqual(went >> 7, Steps(5, 3, 0, 4))
        self.assertEqual(Steps(FAR, 10 ** 36)[FAR], 10 ** 36)
        self.assertEqual(len(Steps(0, *[1] * 2000).amounts), 2000)
        self.assertNotEqual(Steps(0, 0, 1), Steps(1, 1))
        self.assertTrue(isinstance(went, History))

    def test_wrong_parts(self):
        for wrong in OTHERS + [FAR + 1, -FAR - 1]:
            self.fails(BadHistory("begin"), Steps, wrong, wrong)
        for wrong in OTHERS + [-1, 10 ** 36 + 1]:
            self.fails(BadHistory(1), Steps, 0, 1, wrong, wrong)
            self.fails(BadHistory(2001), Steps, 0, *[1] * 2001, wrong)
        self.fails(TooMany("ticks", 2000), Steps, 0, *[1] * 2001)
        self.fails(BadHistory("begin"), lambda: Steps(FAR, 1) >> 1)


class TestThrough(Case):
    def test_greatest_of_all_histories(self):
        pace = Pace((1, 2), (3, 4))
        rows = all_amounts(pace, 0, 6)
        dice = random.Random(2)
        for _ in range(60):
            row = dice.choice(rows)
            times = sorted(dice.sample(range(7), dice.randint(1, 4)))
            through = Through(pace, *[(t, row[t]) for t in times])
            fits = [one for one in rows if all(one[t] - one[times[0]] == row[t] - row[times[0]] for t in times)]
            first, last = times[0], times[-1]
            for t in range(7):
                known = row[first] if t < first else row[min(t, last)] if t >= last else None
                wanted = max(one[t] - one[first] + row[first] for one in fits) if known is None else known
                self.assertEqual(through(t), wanted)
            found = [through(t) for t in range(-5, 12)]
            steps = [b - a for a, b in zip(found, found[1:])]
            self.assertTrue(all(keeps(steps[:k], pace) for k in range(1, len(steps) + 1)))

    def test_far_out(self):
        through = Through(PACE, (-FAR, -10 ** 36), (FAR, -10 ** 36 + PACE.top(2 * FAR)))
        self.assertEqual((through(-FAR), through(FAR)), (-10 ** 36, -10 ** 36 + PACE.top(2 * FAR)))
        self.assertEqual(through[FAR], 0)
        self.assertEqual(through(1), -10 ** 36 + PACE.top(FAR + 1))
        self.assertEqual(through.row(FAR - 2, FAR), (through[FAR - 2], through[FAR - 1]))

    def test_moved(self):
        went = Through(PACE, (0, 0), (3, 2), (6, 8))
        later = went >> 10
        self.assertEqual((later.pace, later.points), (PACE, ((10, 0), (13, 2), (16, 8))))
        self.assertEqual([later(t + 10) for t in range(-2, 9)], [went(t) for t in range(-2, 9)])
        self.assertEqual(later >> -10, went)
        self.fails(BadHistory(2), lambda: went >> FAR - 5)
        self.fails(BadHistory(0), lambda: later >> FAR)
        self.assertEqual((Through(PACE, (FAR, 0)) >> -FAR).points, ((0, 0),))

    def test_equals(self):
        went = Through(PACE, (0, 0), (3, 2))
        self.assertEqual(went, Through(Pace((4, 6), (1, 3)), (0, 0), (3, 2)))
        self.assertNotEqual(went, Through(PACE, (0, 0), (3, 3)))
        self.assertNotEqual(went, Through(Pace((1, 3)), (0, 0), (3, 2)))
        self.assertNotEqual(Through(PACE, (0, 0)), Steps(0))
        self.assertNotEqual(Steps(0), Through(PACE, (0, 0)))
        for value in OTHERS:
            self.assertFalse(went == value or Steps(0) == value)

    def test_wrong_parts(self):
        for work in (Through, barring):
            for wrong in OTHERS + [(1, 3)]:
                self.fails(BadPace(None), work, wrong, wrong)
            self.fails(BadHistory("points"), work, PACE)
            for wrong in NO_POINTS:
                self.fails(BadHistory(0), work, PACE, wrong, wrong)
                self.fails(BadHistory(13), work, PACE, *[(k, 0) for k in range(13)], wrong)
            self.fails(BadHistory(2), work, PACE, (0, 0), (5, 0), (5, 0), None)
            self.fails(BadHistory(1), work, PACE, (0, 0), (-1, 0))
            self.fails(TooMany("points", 12), work, PACE, *[(k, -9 * k) for k in range(13)])
        self.fails(BadHistory((0, 1)), Through, PACE, (0, 0), (1, -1), (2, 9))
        self.fails(BadHistory((0, 2)), Through, PACE, (0, 0), (1, 3), (2, 7))
        self.assertEqual(len(Through(PACE, *[(k, 0) for k in range(12)]).points), 12)


class TestBarring(Case):
    def test_over_all_histories(self):
        pace = Pace((1, 2), (3, 4))
        rows = {tuple(row) for row in all_amounts(pace, 0, 4)}
        for times in itertools.combinations(range(5), 3):
            met = {tuple(row[t] - row[times[0]] for t in times) for row in rows}
            for amounts in itertools.product(range(-1, 7), repeat=2):
                points = [(t, amount) for t, amount in zip(times, (0, *amounts))]
                told = barring(pace, *points)
                self.assertIs(told is None, (0, *amounts) in met)
                if told is not None:
                    i, j = told
                    wrong = [(a, b) for a in range(3) for b in range(a + 1, 3)
                             if not 0 <= points[b][1] - points[a][1] <= pace.top(points[b][0] - points[a][0])]
                    self.alike(told, min(wrong))

    def test_far(self):
        pace = Pace((1, 1))
        self.assertIsNone(barring(pace, (-FAR, 0), (FAR, 2 * FAR)))
        self.alike(barring(pace, (-FAR, 0), (FAR, 2 * FAR + 1)), (0, 1))


class TestStretches(Case):
    def test_what_comes(self):
        for history in (Steps(-1, 2, 0, 3, 1), Through(PACE, (-2, -7), (1, -5), (4, 1))):
            for a, b in itertools.combinations_with_replacement(range(-4, 8), 2):
                amounts = [history(t) for t in range(a, b + 1)]
                row = tuple(after - ahead for ahead, after in zip(amounts, amounts[1:]))
                self.alike(history.row(a, b), row)
                self.alike(history.grown(a, b), sum(row))
                self.alike(tuple(history[t] for t in range(a, b)), row)

    def test_moments(self):
        for history in (Steps(0, 1, 2), Through(PACE, (0, 0), (2, 5))):
            for wrong in OTHERS + [FAR + 1, -FAR - 1]:
                self.fails(BadNumber(wrong), history, wrong)
                self.fails(BadNumber(wrong), lambda t: history[t], wrong)
                self.fails(BadNumber(wrong), history.grown, wrong, None)
                self.fails(BadNumber(wrong), history.row, wrong, None)
                self.fails(BadNumber(wrong), lambda k: history >> k, wrong)
            for wrong in OTHERS + [FAR + 1, -1]:
                self.fails(BadNumber(wrong), history.grown, 0, wrong)
                self.fails(BadNumber(wrong), history.row, 0, wrong)
                self.fails(BadNumber(wrong), breach, history, PACE, 0, wrong)
            self.fails(TooMany("ticks", 2000), history.row, 0, 2001)
            self.assertEqual(len(history.row(a=0, b=2000)), 2000)
            self.assertEqual((history.row(3, 3), history.grown(-FAR, FAR)), ((), history(FAR)))
            with self.assertRaises(TypeError):
                list(history)

    def test_fastest(self):
        for ticks in range(9):
            went = fastest(pace=PACE, moment=-3, ticks=ticks)
            points = ((-3, 0), (ticks - 3, PACE.top(ticks)))[:1 if ticks == 0 else 2]
            self.assertEqual(went, Through(PACE, *points))
            self.assertEqual([went(t - 3) for t in range(ticks + 1)], [PACE.top(t) for t in range(ticks + 1)])
        self.assertEqual(fastest(PACE, 0, FAR)(FAR), PACE.top(FAR))
        self.assertEqual(fastest(Pace((1, 10 ** 6)), 0, FAR)(FAR), 10 ** 36)
        self.fails(BadHistory(1), fastest, PACE, 1, FAR)
        for wrong in OTHERS:
            self.fails(BadPace(None), fastest, wrong, None, None)
        for wrong in OTHERS + [FAR + 1, -FAR - 1]:
            self.fails(BadNumber(wrong), fastest, PACE, wrong, None)
        for wrong in OTHERS + [FAR + 1, -1]:
            self.fails(BadNumber(wrong), fastest, PACE, 0, wrong)

    def test_breach(self):
        pace = Pace((1, 2), (2, 3), (4, 4))
        for amounts in itertools.product(range(4), repeat=4):
            history = Steps(0, *amounts)
            for begin, end in itertools.combinations(range(-1, 6), 2):
                row = history.row(begin, end)
                wanted = next(((begin + at, ticks) for at in range(len(row)) for ticks, most in pace.rules
                               if sum(row[at:at + ticks]) > most), None)
                self.alike(breach(history, pace, begin, end), wanted)
        self.assertIsNone(breach(history=Steps(0, 9), pace=pace, begin=0, end=0))
        for wrong in OTHERS:
            self.fails(BadHistory("history"), breach, wrong, None, None, None)
            self.fails(BadPace(None), breach, Steps(0), wrong, None, None)
        for wrong in OTHERS + [FAR + 1, -FAR - 1]:
            self.fails(BadNumber(wrong), breach, Steps(0), pace, wrong, None)
        self.fails(TooMany("ticks", 2000), breach, Steps(0), pace, 0, 2001)
        self.alike(breach(Steps(1999, 9), pace, 0, 2000), (1996, 4))
        self.assertIsNone(breach(fastest(PACE, -FAR, 2000), PACE, -FAR, 2000 - FAR))


if __name__ == "__main__":
    unittest.main()
