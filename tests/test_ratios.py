"""Fractions."""

import unittest
from fractions import Fraction

from gaugeroad.errors import BadRatio, BadText
from gaugeroad.ratios import Ratio
from helpers import OTHERS, Case


def frac(one):
    return Fraction(one.up, one.down) if isinstance(one, Ratio) else Fraction(one)


class TestRatios(Case):
    def test_lowest_terms(self):
        for up in range(-12, 13):
            for down in list(range(-9, 0)) + list(range(1, 10)):
                one = Ratio(up, down)
                self.assertEqual((one.up, one.down), Fraction(up, down).as_integer_ratio())
                self.assertEqual(str(one), str(Fraction(up, down)))
                self.assertEqual(Ratio.read(str(one)), one)
        self.assertEqual(Ratio(down=6, up=4), Ratio(2, 3))

    def test_signs_as_fractions_have_them(self):
        values = [Ratio(up, down) for up in range(-5, 6) for down in (1, 2, 3, 7)] + [-3, 0, 2, 10 ** 41]
        for one in values:
            for other in values:
                if not isinstance(one, Ratio) and not isinstance(other, Ratio):
                    continue
                a, b = frac(one), frac(other)
                for found, wanted in [(one + other, a + b), (one - other, a - b), (one * other, a * b)]:
                    self.assertIsInstance(found, Ratio)
                    self.assertEqual(frac(found), wanted)
                self.assertIs(one == other, a == b)
                if isinstance(one, Ratio):
                    self.assertIs(one.less(other), a < b)
                    self.assertIs(one.at_most(other), a <= b)
                if b:
                    self.assertIs(type(one // other), int)
                    self.assertEqual(one // other, a // b)
                    self.assertEqual(frac(one % other), a % b)
                    if isinstance(one, Ratio):
                        self.assertEqual(frac(one.over(other)), a / b)

    def test_single_ones(self):
        for up in range(-9, 10):
            for down in range(1, 6):
                one, wanted = Ratio(up, down), Fraction(up, down)
                self.assertEqual((frac(-one), frac(abs(one))), (-wanted, abs(wanted)))
                self.alike((one.floor, one.ceiling), (wanted // 1, -(-wanted // 1)))

    def test_equal_to_integers_only(self):
        self.assertTrue(Ratio(1) == 1 and 1 == Ratio(1) and Ratio(0) == 0)
        for value in OTHERS + [1.0]:
            self.assertFalse(Ratio(1) == value)
            self.assertFalse(Ratio(0) == value)
        self.assertFalse(Ratio(1, 2) == 0)

    def test_wrong_values(self):
        for value in OTHERS:
            self.fails(BadRatio(value), Ratio, value, 0)
            self.fails(BadRatio(value), Ratio, 1, value)
            one = Ratio(1, 2)
            works = [one.less, one.at_most, one.over, lambda x: one + x, lambda x: one - x, lambda x: one * x,
                     lambda x: one // x, lambda x: one % x, lambda x: x - one, lambda x: x // one]
            for work in works:
                self.fails(BadRatio(value), work, value)
            if not isinstance(value, str):
                self.fails(BadRatio(value), lambda x: x % one, value)
            self.fails(BadRatio(value), lambda x: x + one, value)
            self.fails(BadRatio(value), lambda x: x * one, value)
        self.fails(BadRatio(0), Ratio, 5, 0)
        self.fails(BadRatio("x"), Ratio, "x", "y")

    def test_no_quotient_by_nothing(self):
        one, none = Ratio(1, 2), Ratio(0)
        for divisor in (0, none):
            for work in (one.over, lambda x: one // x, lambda x: one % x):
                with self.assertRaises(BadRatio) as caught:
                    work(divisor)
                self.assertIs(caught.exception.value, divisor)
        for work in (lambda: 3 // none, lambda: 3 % none):
            with self.assertRaises(BadRatio) as caught:
                work()
            self.assertIs(caught.exception.value, none)
        self.fails(BadRatio(None), lambda: None // none)

    def test_texts_that_cannot_stand(self):
        for value in OTHERS:
            if not isinstance(value, str) or value != "3":
                self.fails(BadText(0, 0), Ratio.read, value)
        words = ["", "-", "/", "1/", "/2", "2/4", "3/1", "0/2", "1/0", "0/1", "-0", "+1", "01", "1/02", "1/-2", "--1",
                 "1/2/3", "1_0", "x", "1.5", "\n1", "1\n", "9" * 41, "1/" + "9" * 41, "-" + "9" * 41]
        for word in words:
            self.fails(BadText(0, 0), Ratio.read, word)
        self.fails(BadText(0, 1), Ratio.read, "1/2 ")
        self.fails(BadText(0, 1), Ratio.read, "1/2 3")
        self.fails(BadText(0, 0), Ratio.read, " 1/2")
        self.fails(BadText(0, 0), Ratio.read, "9" * 6000)
        for text in ("0", "-" + "9" * 40, "9" * 40 + "/" + "1" + "0" * 39, "-7/2"):
            self.assertEqual(str(Ratio.read(text)), text)


if __name__ == "__main__":
    unittest.main()
