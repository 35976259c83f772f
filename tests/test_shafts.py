"""Trains at work."""

import itertools
import random
import unittest

from gaugeroad.errors import BadBeginning, BadNumber, BadTrain
from gaugeroad.marks import Marks
from gaugeroad.parts import Divider, Gear, Slips, Wheel
from gaugeroad.shafts import Shaft, best_beginnings, worst_beginnings
from gaugeroad.trains import Train
from helpers import OTHERS, Case
from test_parts import counts_of_wheel
from test_trains import TRAINS

FAR = 10 ** 30


def beginnings_of(part):
    if isinstance(part, Wheel):
        return list(range(part.turn))
    if isinstance(part, Gear):
        return list(range(part.down))
    return [Marks(1), Marks(part.of, 0), Marks(part.of, part.of - 1), Marks(part.of + 2, 1)]


def let_out(part, beginning, n):
    """What a part lets out of the first n, one by one."""
    if isinstance(part, Wheel):
        return counts_of_wheel(part.teeth, beginning, n)
    if isinstance(part, Gear):
        return (part.up * n + beginning) // part.down
    return len([k for k in range(n) if k not in beginning])


def total_of(train, beginnings, n):
    for part, beginning in zip(train.parts, beginnings):
        n = let_out(part, beginning, n)
    return n


class TestShafts(Case):
    def test_counts_from_all_beginnings(self):
        for train in TRAINS:
            for row in itertools.product(*[beginnings_of(part) for part in train.parts]):
                shaft = Shaft(train, *row)
                self.assertEqual((shaft.train, shaft.stands, shaft.total, shaft.moved), (train, row, 0, 0))
                moved = 0
                for amount in (0, 1, 2, 0, 5, 1, 7):
                    ahead = total_of(train, row, moved)
                    moved += amount
                    self.alike(shaft.move(amount), total_of(train, row, moved) - ahead)
                    self.alike((shaft.moved, shaft.total), (moved, total_of(train, row, moved)))

    def test_where_it_stands(self):
        dice = random.Random(1)
        for train in TRAINS:
            for _ in range(20):
                row = [dice.choice(beginnings_of(part)) for part in train.parts]
                shaft = Shaft(train, *row)
                shaft.move(dice.randint(0, 40))
                shaft.move(dice.randint(0, 40))
                fresh = Shaft(train, *shaft.stands)
                self.assertEqual(fresh.stands, shaft.stands)
                for amount in (1, 1, 1, 3, 10, 60):
                    self.assertEqual(fresh.move(amount), shaft.move(amount))
                    self.assertEqual(fresh.stands, shaft.stands)

    def test_far(self):
        shaft = Shaft(Train(Wheel(1, 2), Gear(60, 7), Slips(3)), 2, 6, Marks(3, 1))
        self.assertEqual(shaft.move(FAR), total_far(FAR))
        self.assertEqual(shaft.move(amount=FAR), total_far(2 * FAR) - total_far(FAR))
        self.assertEqual(shaft.moved, 2 * FAR)

    def test_twins_and_equals(self):
        train = Train(Wheel(2, 3), Divider(2), Slips(3))
        shaft = Shaft(train, 4, 1, Marks(3, 2))
        shaft.move(7)
        twin = shaft.twin()
        self.assertEqual(twin, shaft)
        self.assertEqual((twin.total, twin.moved, twin.stands), (shaft.total, shaft.moved, shaft.stands))
        twin.move(1)
        self.assertNotEqual(twin, shaft)
        shaft.move(1)
        self.assertEqual(twin, shaft)
        self.assertNotEqual(Shaft(train, *shaft.stands), shaft)
        self.assertNotEqual(Shaft(Train(Divider(2)), 0), Shaft(Train(Divider(3)), 0))
        self.assertEqual(Shaft(Train(Gear(1, 2)), 0), Shaft(Train(Divider(2)), 0))
        self.assertEqual(Shaft(train=Train()), Shaft(Train()))
        for value in OTHERS:
            self.assertFalse(shaft == value)

    def test_wrong_ones(self):
        train = Train(Wheel(2, 3), Slips(3), Divider(4))
        for wrong in OTHERS:
            self.fails(BadTrain("train"), Shaft, wrong, wrong)
            self.fails(BadBeginning(0), Shaft, train, wrong, wrong)
            self.fails(BadBeginning(1), Shaft, train, 0, wrong)
            self.fails(BadBeginning(2), Shaft, train, 0, Marks(1), wrong, 5)
            self.fails(BadBeginning(3), Shaft, train, 0, Marks(1), 0, wrong)
        self.fails(BadBeginning(0), Shaft, train)
        self.fails(BadBeginning(0), Shaft, train, 5)
        self.fails(BadBeginning(2), Shaft, train, 0, Marks(3, 1))
        self.fails(BadBeginning(1), Shaft, train, 0, Marks(2, 1))
        self.fails(BadBeginning(2), Shaft, train, 0, Marks(1), 4, 4)
        self.fails(BadBeginning(0), Shaft, Train(), 0)
        shaft = Shaft(train, 0, Marks(3, 1), 0)
        shaft.move(3)
        kept = shaft.twin()
        for wrong in OTHERS + [-1, FAR + 1]:
            self.fails(BadNumber(wrong), shaft.move, wrong)
        self.assertEqual(shaft, kept)

    def test_best_and_worst(self):
        for train in TRAINS:
            for d in list(range(20)) + [FAR, FAR - 7]:
                best, worst = best_beginnings(train, d), worst_beginnings(train=train, d=d)
                self.assertEqual((type(best), type(worst)), (tuple, tuple))
                self.assertEqual(Shaft(train, *best).move(d), train.most(d))
                self.assertEqual(Shaft(train, *worst).move(d), train.least(d))
        for work in (best_beginnings, worst_beginnings):
            for wrong in OTHERS:
                self.fails(BadTrain("train"), work, wrong, None)
            for wrong in OTHERS + [-1, FAR + 1]:
                self.fails(BadNumber(wrong), work, Train(), wrong)


def total_far(n):
    """The counts of the wheel 1 2 from 2, the gear 60 7 from 6 and the slips that lose 1, 4, 7 .."""
    marks = (n + 2) // 3 + (n + 1) // 3
    out = (60 * marks + 6) // 7
    return out - (out + 1) // 3


if __name__ == "__main__":
    unittest.main()
