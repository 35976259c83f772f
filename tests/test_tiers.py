"""How borders are read as they grow old."""

import random
import unittest

from gaugeroad.errors import BadNumber, BadText, BadTiers, Forgotten, TooMany
from gaugeroad.tiers import Tiers
from helpers import OTHERS, Case

FAR = 10 ** 30
SIX = [(2 ** k, 10 ** k) for k in range(6)]


def some(dice, most=4):
    """Tiers by lot."""
    width, keep, pairs = 1, 0, []
    for at in range(dice.randint(1, most)):
        width *= dice.randint(2, 3) if at else 1
        keep += dice.randint(1, 12)
        pairs.append((width, keep))
    return Tiers(*pairs)


class TestTiers(Case):
    def test_how_borders_are_read(self):
        dice = random.Random(1)
        for _ in range(30):
            tiers = some(dice)
            self.alike((len(tiers), list(tiers), tiers.oldest), (len(tiers.pairs), list(tiers.pairs), tiers.pairs[-1][1] - 1))
            for age in range(tiers.oldest + 1):
                width = next(width for width, keep in tiers.pairs if age < keep)
                self.alike(tiers.width_at(age), width)
                for moment in range(-20, 20, 3):
                    grid = max(k for k in range(-60, 60) if k % width == 0 and k <= moment) if width < 40 else None
                    self.alike(tiers.grid(moment, age), grid if grid is not None else moment // width * width)
                    self.alike(tiers.offset(moment, age), moment - tiers.grid(moment, age))
            for age in (tiers.oldest + 1, FAR):
                self.fails(Forgotten(age), tiers.width_at, age)
                self.fails(Forgotten(-7), tiers.grid, -7, age)
                self.fails(Forgotten(7), tiers.offset, 7, age)
        far = Tiers((1, 1), (10 ** 6, 10 ** 9))
        self.alike((far.grid(moment=-FAR, age=1), far.grid(FAR, 0), far.offset(moment=FAR - 1, age=10 ** 9 - 1)),
                   (-FAR, FAR, 10 ** 6 - 1))
        self.alike(far.width_at(age=10 ** 9 - 1), 10 ** 6)

    def test_errors_in_their_order(self):
        self.fails(BadTiers(0), Tiers)
        for wrong in OTHERS + [(1,), (1, 5, 5), [1, 5], (0, 5), (2, 5), (True, 5), (1, 0), (1, True), (1, 10 ** 9 + 1),
                               (1, None), ("1", 5), 5]:
            self.fails(BadTiers(0), Tiers, wrong, wrong)
        for wrong in OTHERS + [(2, 6), (3, 7), (5, 7), (6, 5), (6, 4), (0, 7), (-4, 7), (9, 7), (2 * 10 ** 6, 7), (4, 7.0),
                               (8, 10 ** 9 + 1), (8, 5), (8, 4), (8, -5), (8, True), (8, None), [8, 7], (8,),
                                (8, 7, 9), (True, 7), (10 ** 6 + 4, 7)]:
            self.fails(BadTiers(2), Tiers, (1, 3), (4, 5), wrong, wrong)
            self.fails(BadTiers(2), lambda: Tiers((1, 3), (4, 5)) | wrong)
        self.fails(TooMany("pairs", 6), Tiers, *SIX, (64, 10 ** 7))
        self.fails(TooMany("pairs", 6), lambda: Tiers(*SIX) | (64, 10 ** 7))
        self.fails(BadTiers(6), Tiers, *SIX, (63, 10 ** 7))
        self.alike(Tiers(*SIX).pairs, tuple(SIX))
        self.alike((Tiers((1, 1), (2, 2)).oldest, Tiers.MOST), (1, 6))
        tiers = Tiers((1, 10))
        for wrong in OTHERS + [FAR + 1, -FAR - 1]:
            for age in (0, 10, None):
                self.fails(BadNumber(wrong), tiers.grid, wrong, age)
                self.fails(BadNumber(wrong), tiers.offset, wrong, age)
        self.alike(Tiers((1, 3), (4, 5), (8, 6)).oldest, 5)
        for wrong in OTHERS + [FAR + 1, -1]:
            self.fails(BadNumber(wrong), tiers.width_at, wrong)
            self.fails(BadNumber(wrong), tiers.grid, 0, wrong)
            self.fails(BadNumber(wrong), tiers.offset, 0, wrong)

    def test_equal(self):
        self.assertTrue(Tiers((1, 3), (4, 5)) == Tiers((1, 3)) | (4, 5))
        self.assertFalse(Tiers((1, 3)) == Tiers((1, 4)))
        self.assertFalse(Tiers((1, 3)) == ((1, 3),))

    def test_texts(self):
        dice = random.Random(2)
        for _ in range(20):
            tiers = some(dice, 6)
            self.assertTrue(Tiers.read(text=str(tiers)) == tiers)
        self.alike(str(Tiers((1, 10), (5, 40))), "1 10 / 5 40")
        for text, word in [("", 0), ("1", 1), ("2 10", 0), ("1 0", 1), ("1 10 ", 2), ("1 10 /", 3), ("1 10 / 5", 4),
                           ("1 10 / 1 40", 3), ("1 10 / 0 40", 3), ("1 10 / -2 40", 3), ("1 10 / 5 10", 4),
                           ("1 10 / 5 40 / 12 50", 6), ("1 10 / 5 40 / 5 50", 6), ("1 10 5 40", 2), ("1 1000000001", 1),
                           ("1 1000000000 / 2 1000000000", 4), ("1 5 / 2000000 9", 3), ("1 5 / 600000 9 / 1200000 10", 6),
                           ("1 5 / x 9", 3), ("1 5 / 2 9 x", 5)]:
            self.fails(BadText(0, word), Tiers.read, text)
        six = str(Tiers(*SIX))
        self.fails(BadText(0, 17), Tiers.read, six + " / 64 10000000")
        self.fails(BadText(0, 17), Tiers.read, six + " 64")
        for wrong in OTHERS[:3] + OTHERS[5:] + [5]:
            self.fails(BadText(0, 0), Tiers.read, wrong)


if __name__ == "__main__":
    unittest.main()
