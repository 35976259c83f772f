"""Trains."""

import itertools
import unittest

from gaugeroad.errors import BadNumber, BadPart, BadText, BadTrain, TooMany
from gaugeroad.parts import Divider, Gear, Slips, Wheel
from gaugeroad.ratios import Ratio
from gaugeroad.trains import Train
from helpers import OTHERS, Case
from test_parts import counts_of_wheel, lost_rows

FAR = 10 ** 40
TRAINS = [Train(), Train(Wheel(1, 2, 3)), Train(Gear(5, 2)), Train(Slips(3)), Train(Wheel(2, 3), Divider(2)),
          Train(Wheel(1, 3), Gear(3, 2), Gear(2, 5)), Train(Divider(2), Slips(3, lost=2)),
          Train(Wheel(2, 1), Slips(2), Gear(3, 4)), Train(Gear(5, 2), Slips(4, lost=2), Gear(2, 3))]


def all_let_out(part, n):
    """All numbers that a part can let out while n come in, by its beginnings one by one."""
    if isinstance(part, Wheel):
        return {counts_of_wheel(part.teeth, b, n) for b in range(part.turn)}
    if isinstance(part, Gear):
        return {(part.up * n + r) // part.down for r in range(part.down)}
    return {n - signs.count("x") for signs in lost_rows(part.of, part.lost, n)}


def all_counts(train, d):
    """All numbers of counts of a train; each part begins as it likes."""
    found = {d}
    for part in train.parts:
        found = {out for n in found for out in all_let_out(part, n)}
    return found


class TestTrains(Case):
    def test_extremes_over_all_beginnings(self):
        for train in TRAINS:
            for d in range(9):
                found = all_counts(train, d)
                self.alike((train.least(d), train.most(d)), (min(found), max(found)))

    def test_a_number_between_need_not_be_met(self):
        self.assertEqual(all_counts(Train(Gear(5, 2)), 2) | all_counts(Train(Gear(5, 2)), 3), {5, 7, 8})

    def test_growths_and_ways_back(self):
        for train in TRAINS:
            least, most = train.least_growth, train.most_growth
            lows, highs = [train.least(d) for d in range(120)], [train.most(d) for d in range(120)]
            self.assertEqual((list(least.row(0, 120)), list(most.row(0, 120))), (lows, highs))
            for n in range(0, 15):
                self.assertEqual(train.first(n), min(d for d in range(120) if highs[d] >= n))
                self.assertEqual(train.last(n), max(d for d in range(120) if lows[d] <= n))
            for n in (FAR, FAR - 3):
                first, last = train.first(n=n), train.last(n=n)
                self.assertTrue(train.most_of(first - 1) < n <= train.most_of(first))
                self.assertTrue(train.least_growth.value_at(last) <= n < train.least_growth.value_at(last + 1))
            self.assertEqual((train.least(d=FAR), train.most(d=FAR)), (least(FAR), most(FAR)))

    def test_far_through_many_gears(self):
        train = Train(*[Gear(60, 1)] * 6)
        self.assertEqual((train.least(FAR), train.most(FAR)), (FAR * 60 ** 6, FAR * 60 ** 6))
        self.assertEqual(Train(*[Divider(60)] * 6).first(FAR), (FAR - 1) * 60 ** 6 + 1)

    def test_what_they_have(self):
        wheel, half, slips = Wheel(9, 11, 10, 10), Divider(2), Slips(4)
        train = Train(wheel, half, slips)
        self.assertEqual((train.parts, len(train), list(train)), ((wheel, half, slips), 3, [wheel, half, slips]))
        self.assertEqual((train[0], train[2], train[1:3], train[1:1]), (wheel, slips, Train(half, slips), Train()))
        self.assertTrue(Gear(1, 2) in train and Wheel(9, 11, 10, 10) in train and Gear(2, 1) not in train)
        for value in OTHERS:
            self.assertFalse(value in train)
            self.assertFalse(train == value)
        self.assertEqual((train.worth, Train().worth), (Ratio(20), Ratio(1)))
        self.assertEqual(Train(Wheel(1, 2), Gear(3, 5), slips).worth, Ratio(5, 2))
        self.alike([one.is_exact for one in (Train(), train, train[0:2])], [True, False, True])
        self.alike([one.is_fine for one in (Train(), train, Train(Gear(2, 2)), Train(half, Gear(3, 2)))],
                   [True, True, True, False])
        self.assertEqual(train, Train(wheel, Gear(1, 2), slips))
        self.assertNotEqual(train, Train(wheel, slips, half))

    def test_sums(self):
        wheel, half = Wheel(3), Divider(2)
        self.assertEqual(Train(wheel) + half + Train(half, Slips(2)), Train(wheel, half, half, Slips(2)))
        for wrong in OTHERS:
            self.fails(BadTrain("other"), lambda other: Train(wheel) + other, wrong)
        self.fails(BadTrain(1), lambda: Train(half) + wheel)
        self.fails(BadTrain(2), lambda: Train(half) + Train(half) + Train(wheel))
        self.fails(TooMany("parts", 6), lambda: Train(*[half] * 4) + Train(*[half] * 3))
        self.assertEqual(len(Train(*[half] * 3) + Train(*[half] * 3)), 6)

    def test_wrong_parts(self):
        half = Divider(2)
        for wrong in OTHERS + [Train(half)]:
            self.fails(BadTrain(0), Train, wrong, wrong)
            self.fails(BadTrain(8), Train, *[half] * 8, wrong, Wheel(1))
        self.fails(BadTrain(1), Train, Wheel(1), Wheel(1), None)
        self.fails(BadTrain(7), Train, *[half] * 7, Wheel(1))
        self.fails(TooMany("parts", 6), Train, *[half] * 7)
        for train in TRAINS:
            for wrong in OTHERS + [-1, FAR + 1]:
                for work in (train.least, train.most, train.first, train.last):
                    self.fails(BadNumber(wrong), work, wrong)

    def test_too_many_values(self):
        train = Train(Wheel(*[9] * 39, 10), Gear(7, 59), Gear(3, 53))
        for work in (lambda: train.least_growth, lambda: train.most_growth):
            self.fails(TooMany("values", 5000), work)
        self.assertEqual(train.most(10 ** 20) - train.least(10 ** 20) in range(3), True)

    def test_texts(self):
        texts = ["-", "wheel 1", "slips 2 1", "gear 1 1", "slips 60 59", "wheel " + " ".join(["10"] * 40),
                 "wheel 9 11 10 10 , gear 1 2 , slips 4 1", " , ".join(["gear 59 60"] * 6)]
        for text in texts:
            self.assertEqual(str(Train.read(text)), text)
        for wrong in OTHERS:
            if not isinstance(wrong, str):
                self.fails(BadText(0, 0), Train.read, wrong)
        told = [("", 0), ("- -", 1), ("- ", 1), ("wheel", 1), ("wheel ,", 1), ("wheel 0", 1), ("wheel 401", 1),
                ("wheel 5 ", 2), ("wheel 5 x", 2), ("wheel " + " ".join(["1"] * 41), 41), ("gear", 1), ("gear 61 1", 1),
                ("gear 1", 2), ("gear 1 61", 2), ("gear 4 2", 2), ("gear 2 2", 2), ("gear 1 2 3", 3), ("slips 1 1", 1),
                ("slips 61 1", 1), ("slips 4", 2), ("slips 4 4", 2), ("slips 4 0", 2), ("slips 4 1 1", 3),
                ("gear 1 2 ,", 4), ("gear 1 2 , ", 4), ("gear 1 2 , wheel 1", 4), ("gear 1 2 , -", 4),
                ("wheel 5 , wheel 5", 3), (" , ".join(["gear 1 2"] * 7), 23), (" , ".join(["gear 1 2"] * 6) + " x", 23),
                ("Wheel 5", 0), ("wheel 400 400 , gear 2 4", 6), ("wheel 5 -", 2), ("gear 01 2", 1)]
        for text, word in told:
            self.fails(BadText(0, word), Train.read, text)
        self.fails(BadPart("turn"), Train.read, "wheel 400 1")
        self.fails(BadPart("turn"), Train.read, "wheel 400 1 , gear 1 2")

    def test_all_gears_read_back(self):
        for up, down in itertools.product(range(1, 61), repeat=2):
            text = f"gear {up} {down}"
            if str(Gear(up, down)) == text:
                self.assertEqual(Train.read(text), Train(Gear(up, down)))
            else:
                self.fails(BadText(0, 2), Train.read, text)


if __name__ == "__main__":
    unittest.main()
