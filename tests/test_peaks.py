"""The greatest distances."""

import random
import unittest

from gaugeroad.errors import BadGrowth, BadNumber, BadRatio, Nothing
from gaugeroad.growths import Growth
from gaugeroad.peaks import peak_above, peak_below
from gaugeroad.ratios import Ratio
from helpers import OTHERS, Case

FAR = 10 ** 40


def best(values):
    """The greatest of pairs (height, D), the least D of several."""
    top = values[0]
    for found in values:
        if top[0].less(found[0]):
            top = found
    return top


class TestPeaks(Case):
    def test_against_all_numbers(self):
        for seed in range(300):
            dice = random.Random(seed)
            head = [dice.randint(-2, 4) for _ in range(dice.randint(1, 4))]
            growth = Growth(head, [dice.randint(-1, 3) for _ in range(dice.randint(1, 5))])
            worth = Ratio(dice.randint(0, 5), dice.randint(1, 3))
            low = dice.randint(0, 8)
            high = low + dice.randint(0, 25)
            above = [(worth * growth(D) - D, D) for D in range(low, high + 1)]
            below = [(D - worth * growth(D), D) for D in range(high + 1)]
            self.alike(peak_above(growth, worth, low, high), best(above))
            self.alike(peak_below(growth, worth, high), best(below))
            slope = worth * sum(growth.gains) - len(growth.gains)
            far_above = [(worth * growth(D) - D, D) for D in range(low, low + 40)]
            far_below = [(D - worth * growth(D), D) for D in range(40)]
            if Ratio(0).less(slope):
                self.fails(Nothing(), peak_above, growth, worth, low)
            else:
                self.alike(peak_above(growth, worth, low), best(far_above))
            if slope.less(0):
                self.fails(Nothing(), peak_below, growth, worth)
            else:
                self.alike(peak_below(growth, worth), best(far_below))

    def test_far_out(self):
        ramp = Growth.ramp(2)
        self.alike(peak_above(ramp, Ratio(1), high=FAR), (Ratio(FAR), FAR))
        self.alike(peak_above(ramp, Ratio(1), low=FAR, high=FAR), (Ratio(FAR), FAR))
        self.alike(peak_above(ramp, Ratio(1, 3), low=FAR), (Ratio(-FAR, 3), FAR))
        self.alike(peak_below(ramp, Ratio(1, 3), FAR), (Ratio(FAR, 3), FAR))
        self.alike(peak_below(least=ramp, worth=Ratio(0), high=5), (Ratio(5), 5))
        self.alike(peak_above(most=ramp, worth=Ratio(0), low=3, high=None), (Ratio(-3), 3))

    def test_from_nothing_on(self):
        none = Growth.constant(0)
        self.alike(peak_above(none, Ratio(1)), (Ratio(0), 0))
        self.alike(peak_above(none, Ratio(1), high=0), (Ratio(0), 0))
        self.alike(peak_below(none, Ratio(1), 0), (Ratio(0), 0))
        self.alike(peak_below(Growth.ramp(1), Ratio(1)), (Ratio(0), 0))

    def test_wrong_values(self):
        growth = Growth.ramp(1)
        for wrong in OTHERS + [1]:
            self.fails(BadGrowth("most"), peak_above, wrong, wrong, wrong, wrong)
            self.fails(BadGrowth("least"), peak_below, wrong, wrong, wrong)
        for wrong in OTHERS + [1, Ratio(-1, 2)]:
            with self.assertRaises(BadRatio) as caught:
                peak_above(growth, wrong, "low")
            self.assertIs(caught.exception.value, wrong)
            with self.assertRaises(BadRatio) as caught:
                peak_below(growth, wrong, "high")
            self.assertIs(caught.exception.value, wrong)
        for wrong in OTHERS + [-1, FAR + 1]:
            self.fails(BadNumber(wrong), peak_above, growth, Ratio(1), wrong, "high")
        for wrong in OTHERS[1:] + [4, FAR + 1]:
            self.fails(BadNumber(wrong), peak_above, growth, Ratio(1), 5, wrong)
        for wrong in OTHERS[1:] + [-1, FAR + 1]:
            self.fails(BadNumber(wrong), peak_below, growth, Ratio(5), wrong)


if __name__ == "__main__":
    unittest.main()
