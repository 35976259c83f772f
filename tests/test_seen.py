"""What a window tells back."""

import itertools
import random
import unittest

from gaugeroad.errors import BadNumber, BadRoad
from gaugeroad.habits import Habit
from gaugeroad.paces import Pace
from gaugeroad.parts import Divider, Gear, Slips, Wheel
from gaugeroad.roads import Road
from gaugeroad.seen import rows_that, truths
from gaugeroad.trains import Train
from helpers import OTHERS, Case
from test_gaps import counts_of, rows_of

FAR = 10 ** 30
TRAINS = [Train(), Train(Wheel(3)), Train(Wheel(1, 2)), Train(Wheel(2), Divider(2)), Train(Slips(2)),
          Train(Wheel(1, 2), Slips(3, lost=2)), Train(Wheel(2, 3), Gear(2, 3)), Train(Gear(3, 4))]
PACES = [Pace((1, 1)), Pace((1, 2)), Pace((1, 2), (2, 3)), Pace((2, 1)), Pace((1, 2), (3, 2))]


def pairs(road, lag_a, lag_b, length):
    """All pairs of truth and rows of such windows, over all histories and beginnings."""
    found = set()
    # The look at which a is read lies at 0; histories are told up to b.
    for row in rows_of(road.pace.rules, lag_a + length):
        between = sum(row[:lag_a + length - lag_b])
        for counts in counts_of(road.whole, between):
            found.add((sum(row[lag_a:]), counts))
    return found


class TestSeen(Case):
    def test_over_all_histories(self):
        zooms = [None, Divider(2), Gear(2, 3)]
        for seed, (train, pace) in enumerate(itertools.product(TRAINS, PACES)):
            road = Road(train, pace, Habit.steady(3), zoom=zooms[seed % 3])
            for lag_a, lag_b, length in itertools.product(range(4), range(4), range(4)):
                if lag_b > lag_a + length or lag_a + length > 5:
                    continue
                found = pairs(road, lag_a, lag_b, length)
                for rows in range(9):
                    told = sorted(truth for truth, counts in found if counts == rows)
                    self.alike(truths(road, rows, lag_a, lag_b, length), (told[0], told[-1]) if told else None)
                    # Each integer between the two is met.
                    if told:
                        self.assertEqual(set(told), set(range(told[0], told[-1] + 1)))
                for truth in range(11):
                    told = sorted(counts for other, counts in found if other == truth)
                    self.alike(rows_that(road, truth, lag_a, lag_b, length), (told[0], told[-1]) if told else None)
                    if told:
                        self.assertEqual(set(told), set(range(told[0], told[-1] + 1)))

    def test_there_and_back(self):
        for seed in range(60):
            dice = random.Random(seed)
            road = Road(dice.choice(TRAINS), Pace((1, 3), (4, 6), (9, dice.randint(8, 14))), Habit.steady(3))
            lag_a, length = dice.randint(0, 9), dice.randint(0, 30)
            lag_b = dice.randint(0, min(40, lag_a + length))
            for rows, truth in itertools.product(range(0, 40, 3), range(0, 60, 7)):
                back, there = truths(road, rows, lag_a, lag_b, length), rows_that(road, truth, lag_a, lag_b, length)
                one = back is not None and back[0] <= truth <= back[1]
                other = there is not None and there[0] <= rows <= there[1]
                self.assertEqual(one, other)

    def test_far_out(self):
        road = Road(Train(Wheel(5)), Pace((1, 2)), Habit.steady(3))
        self.alike(truths(road, FAR, 10 ** 6, 10 ** 6, FAR), None)
        fast = Road(Train(Wheel(5)), Pace((1, 10)), Habit.steady(3))
        low = 5 * FAR - 4
        self.alike(truths(fast, FAR, 10 ** 6, 0, FAR), (low - 10 ** 7, 5 * FAR + 4))
        self.alike(truths(fast, FAR, 0, 10 ** 6, FAR), (low, 5 * FAR + 4 + 10 ** 7))
        self.alike(rows_that(fast, FAR, 0, 0, FAR), (FAR // 5, FAR // 5))
        self.alike(rows_that(fast, FAR, 10 ** 6, 10 ** 6, FAR), ((FAR - 10 ** 7) // 5, (FAR + 10 ** 7) // 5))
        self.alike(rows_that(road=fast, truth=0, lag_a=10 ** 6, lag_b=10 ** 6, length=0), (0, 0))
        self.alike(truths(road=fast, rows=0, lag_a=10 ** 6, lag_b=10 ** 6, length=0), (0, 0))
        self.alike(truths(fast, 0, 10 ** 6, 10 ** 6, 3), (0, 30))

    def test_errors_in_their_order(self):
        rough = Road(Train(Gear(3, 2)), Pace((1, 1)), Habit.steady(3))
        zoomed = Road(Train(Wheel(9)), Pace((1, 1)), Habit.steady(3), zoom=Gear(3, 2))
        road = Road(Train(Wheel(9)), Pace((1, 1)), Habit.steady(3))
        for asked in (truths, rows_that):
            for wrong in OTHERS + [5]:
                self.fails(BadRoad("road"), asked, wrong, wrong, wrong, wrong, wrong)
                self.fails(BadRoad("fine"), asked, rough, wrong, wrong, wrong, wrong)
                self.fails(BadRoad("fine"), asked, zoomed, wrong, wrong, wrong, wrong)
            for wrong in OTHERS + [-1, FAR + 1]:
                self.fails(BadNumber(wrong), asked, road, wrong, -7, -7, -7)
                self.fails(BadNumber(wrong), asked, road, FAR, 10 ** 6, 10 ** 6, wrong)
            for wrong in OTHERS + [-1, 10 ** 6 + 1]:
                self.fails(BadNumber(wrong), asked, road, 0, wrong, -7, -7)
                self.fails(BadNumber(wrong), asked, road, 0, 0, wrong, -7)
            self.fails(BadNumber(8), asked, road, 0, 3, 8, 4)
            self.fails(BadNumber(1), asked, road, 0, 0, 1, 0)
            asked(road, 0, 3, 7, 4)


if __name__ == "__main__":
    unittest.main()
