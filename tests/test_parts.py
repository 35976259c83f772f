"""Wheels, gears, slips."""

import itertools
import unittest

from gaugeroad.errors import BadNumber, BadPart
from gaugeroad.growths import Growth
from gaugeroad.marks import Marks
from gaugeroad.parts import Divider, Gear, Part, Slips, Wheel
from gaugeroad.ratios import Ratio
from helpers import OTHERS, Case

FAR = 10 ** 40


def counts_of_wheel(teeth, beginning, units):
    """The counts of a wheel that stands so many units behind its last tooth, unit by unit."""
    left, at = beginning, 0
    while left >= teeth[at]:
        left -= teeth[at]
        at += 1
    counts = 0
    for _ in range(units):
        left += 1
        if left == teeth[at]:
            counts += 1
            left, at = 0, (at + 1) % len(teeth)
    return counts


def lost_rows(of, lost, many):
    """All strings of so many signs, x for lost, that slips let."""
    for signs in itertools.product(".x", repeat=many):
        if all(signs[k:k + of].count("x") <= lost for k in range(many)):
            yield "".join(signs)


class TestWheels(Case):
    def test_extremes_over_all_beginnings(self):
        for teeth in itertools.product((1, 2, 4), repeat=3):
            wheel = Wheel(*teeth)
            turn = sum(teeth)
            for d in range(2 * turn + 2):
                found = [counts_of_wheel(teeth, b, d) for b in range(turn)]
                self.alike((wheel.least(d), wheel.most(d)), (min(found), max(found)))
            self.assertEqual(wheel.least_growth.row(0, 40), tuple(wheel.least(d) for d in range(40)))
            self.assertEqual(wheel.most_growth.row(0, 40), tuple(wheel.most(d) for d in range(40)))

    def test_what_it_has(self):
        wheel = Wheel(9, 11, 10, 10)
        self.alike((wheel.teeth, wheel.turn, str(wheel)), ((9, 11, 10, 10), 40, "wheel 9 11 10 10"))
        self.assertEqual(wheel.marks, Marks(40, 0, 9, 20, 30))
        self.assertEqual((len(wheel), list(wheel)), (4, [9, 11, 10, 10]))
        self.assertEqual((~wheel).teeth, (10, 10, 11, 9))
        self.assertEqual([(wheel << k).teeth[0] for k in range(6)], [9, 11, 10, 10, 9, 11])
        self.assertEqual(wheel << 10 ** 30, wheel)
        self.assertEqual(wheel.worth, Ratio(10))
        self.assertEqual(Wheel(1, 2).worth, Ratio(3, 2))
        self.assertEqual(Wheel.even(many=3, length=7), Wheel(7, 7, 7))
        self.assertEqual(Wheel.MOST, 400)
        self.assertTrue(isinstance(wheel, Part) and issubclass(Wheel, Part))
        self.assertEqual(wheel.most(n=FAR), FAR // 10)
        self.assertNotEqual(Wheel(1, 2), Wheel(2, 1))
        self.assertNotEqual(Wheel(2), Wheel(2, 2))
        for value in OTHERS + [Gear(1, 1)]:
            self.assertFalse(wheel == value)

    def test_wrong_teeth(self):
        self.fails(BadPart("teeth"), Wheel)
        for wrong in OTHERS + [0, -1, 401]:
            self.fails(BadPart("teeth"), Wheel, wrong)
            self.fails(BadPart("teeth"), Wheel, 400, 1, wrong)
            self.fails(BadPart("teeth"), Wheel.even, 3, wrong)
        for wrong in OTHERS + [0, 41]:
            self.fails(BadPart("teeth"), Wheel.even, wrong, 400)
        self.fails(BadPart("teeth"), Wheel, *[400] * 41)
        self.fails(BadPart("turn"), Wheel, 400, 1)
        self.fails(BadPart("turn"), Wheel.even, 2, 201)
        self.assertEqual(Wheel(*[10] * 40).turn, 400)
        self.assertEqual(Wheel.even(1, 400).turn, 400)
        self.assertEqual(Wheel.even(40, 1).teeth, (1,) * 40)

    def test_beginnings(self):
        wheel = Wheel(2, 3)
        self.assertEqual([b for b in range(-2, 9) if wheel.is_beginning(b)], [0, 1, 2, 3, 4])
        for value in OTHERS + [Marks(1)]:
            self.assertIs(wheel.is_beginning(value), False)

    def test_numbers(self):
        wheel = Wheel(2, 3)
        for wrong in OTHERS + [-1, 10 ** 30 + 1]:
            self.fails(BadNumber(wrong), lambda k: wheel << k, wrong)


class TestGears(Case):
    def test_extremes_over_all_rests(self):
        for up in range(1, 8):
            for down in range(1, 8):
                gear = Gear(up, down)
                for n in range(30):
                    found = [(gear.up * n + r) // gear.down for r in range(gear.down)]
                    self.alike((gear.least(n), gear.most(n)), (min(found), max(found)))
                self.assertEqual(gear.least_growth.row(0, 30), tuple(gear.least(n) for n in range(30)))
                self.assertEqual(gear.most_growth.row(0, 30), tuple(gear.most(n) for n in range(30)))
                self.assertEqual(gear.worth, Ratio(down, up))

    def test_what_it_has(self):
        gear = Gear(60, 40)
        self.alike((gear.up, gear.down, str(gear)), (3, 2, "gear 3 2"))
        self.assertEqual(Divider(by=7), Gear(up=2, down=14))
        self.assertEqual(Gear(1, 7), Divider(7))
        self.alike((Divider(7).up, Divider(7).down, str(Divider(7))), (1, 7, "gear 1 7"))
        self.assertTrue(issubclass(Divider, Gear) and issubclass(Gear, Part))
        self.assertNotEqual(Gear(1, 2), Gear(2, 1))
        for value in OTHERS + [Wheel(2), Slips(2)]:
            self.assertFalse(Gear(1, 2) == value)
        self.assertEqual([r for r in range(-1, 9) if Gear(5, 3).is_beginning(r)], [0, 1, 2])
        for value in OTHERS + [Marks(1)]:
            self.assertIs(Gear(5, 3).is_beginning(value), False)

    def test_wrong_numbers(self):
        for wrong in OTHERS + [0, -1, 61]:
            self.fails(BadPart("up"), Gear, wrong, wrong)
            self.fails(BadPart("down"), Gear, 1, wrong)
            self.fails(BadPart("by"), Divider, wrong)
            self.fails(BadNumber(wrong), lambda k: Gear(1, 60) // k, wrong)
        self.assertEqual((Gear(60, 60), Divider(60).down), (Gear(1, 1), 60))

    def test_with_a_divider_behind(self):
        for up, down, by in itertools.product(range(1, 7), range(1, 7), range(1, 7)):
            one = Gear(up, down) // by
            self.assertEqual(one, Gear(up, down * by))
            for n in range(20):
                self.assertEqual(one.most(n), Divider(by).most(Gear(up, down).most(n)))
                self.assertEqual(one.least(n), Divider(by).least(Gear(up, down).least(n)))
        self.assertEqual(Gear(60, 1) // 60, Gear(1, 1))
        self.assertEqual(Divider(1) // 60, Divider(60))
        self.fails(BadPart("down"), lambda: Divider(2) // 31)
        self.fails(BadPart("down"), lambda: Gear(59, 60) // 2)


class TestSlips(Case):
    def test_extremes_over_all_losses(self):
        for of in range(2, 6):
            for lost in range(1, of):
                slips = Slips(of, lost=lost)
                for n in range(9):
                    found = [n - signs.count("x") for signs in lost_rows(of, lost, n)]
                    self.alike((slips.least(n), slips.most(n)), (min(found), max(found)))
                self.assertEqual(slips.least_growth.row(0, 40), tuple(slips.least(n) for n in range(40)))
                self.assertEqual(slips.most_growth, Growth.ramp(1))
        self.assertEqual(Slips(3, lost=2).least(FAR), FAR // 3)

    def test_what_they_have(self):
        slips = Slips(of=4)
        self.alike((slips.of, slips.lost, str(slips)), (4, 1, "slips 4 1"))
        self.assertEqual((slips.worth, slips), (Ratio(1), Slips(4, lost=1)))
        self.assertNotEqual(slips, Slips(4, lost=2))
        self.assertNotEqual(slips, Slips(5))
        self.assertTrue(issubclass(Slips, Part))
        for value in OTHERS + [Gear(1, 1)]:
            self.assertFalse(slips == value)
        with self.assertRaises(TypeError):
            Slips(4, 1)

    def test_wrong_numbers(self):
        for wrong in OTHERS + [0, 1, 61]:
            self.fails(BadPart("of"), Slips, wrong, lost=wrong)
        for wrong in OTHERS + [0, -1, 4]:
            self.fails(BadPart("lost"), Slips, 4, lost=wrong)
        self.assertEqual(Slips(60, lost=59).least(60), 1)

    def test_beginnings(self):
        slips = Slips(3)
        for period in range(1, 8):
            for many in range(period + 1):
                for places in itertools.combinations(range(period), many):
                    row = "".join("x" if v % period in places else "." for v in range(40))
                    fits = all(row[k:k + 3].count("x") <= 1 for k in range(30))
                    self.assertIs(slips.is_beginning(Marks(period, *places)), fits)
        for value in OTHERS + [0]:
            self.assertIs(slips.is_beginning(value), False)


class TestAll(Case):
    def test_numbers(self):
        for part in (Wheel(2, 3), Gear(2, 3), Divider(4), Slips(3)):
            for wrong in OTHERS + [-1, FAR + 1]:
                self.fails(BadNumber(wrong), part.least, wrong)
                self.fails(BadNumber(wrong), part.most, wrong)
            self.assertEqual(part.least(n=0), 0)
            for n in (FAR, FAR - 7):
                self.assertEqual((part.least(n), part.most(n)), (part.least_growth(n), part.most_growth(n)))


if __name__ == "__main__":
    unittest.main()
