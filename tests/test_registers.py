"""What shows totals."""

import itertools
import random
import unittest
from math import lcm

from gaugeroad.errors import BadNumber, BadReading, BadRegister, BadText
from gaugeroad.registers import Dials, Plain, Register, Restarting, Wrapping, read_back
from helpers import OTHERS, Case

FAR = 10 ** 40
ALL = [Plain(), Wrapping(5), Dials(4, 6), Dials(2), Restarting()]


class TestRegisters(Case):
    def test_kinds(self):
        for one in ALL:
            self.assertTrue(isinstance(one, Register))
        self.assertTrue(issubclass(Dials, Wrapping))
        self.alike([one.modulus for one in ALL], [None, 5, 12, 2, None])
        self.alike((Dials(4, 6).periods, Wrapping(modulus=10 ** 18).modulus), ((4, 6), 10 ** 18))
        primes = (1000, 999, 997, 991, 983, 977)
        self.assertEqual(Dials(*primes).modulus, lcm(*primes))

    def test_equal_kinds_and_numbers(self):
        again = [Plain(), Wrapping(5), Dials(4, 6), Dials(2), Restarting()]
        for one, other in itertools.product(range(5), repeat=2):
            self.assertIs(ALL[one] == again[other], one == other)
        self.assertNotEqual(Wrapping(12), Dials(4, 6))
        self.assertNotEqual(Dials(4, 6), Wrapping(12))
        self.assertNotEqual(Dials(4, 6), Dials(6, 4))
        self.assertNotEqual(Wrapping(5), Wrapping(6))
        for one in ALL:
            for value in OTHERS:
                self.assertFalse(one == value)

    def test_wrong_numbers(self):
        for wrong in OTHERS + [1, 0, -5, 10 ** 18 + 1]:
            self.fails(BadRegister("modulus"), Wrapping, wrong)
        self.fails(BadRegister("periods"), Dials)
        self.fails(BadRegister("periods"), Dials, *[None] * 7)
        for wrong in OTHERS + [1, 0, 1001]:
            self.fails(BadRegister(2), Dials, 2, 1000, wrong, wrong)

    def test_readings(self):
        for total in list(range(40)) + [FAR, FAR - 1]:
            self.alike([one.shows(total, 3) for one in ALL],
                       [total, total % 5, (total % 4, total % 6), (total % 2,), (3, total)])
            for one in ALL:
                self.assertIs(one.is_reading(one.shows(total=total, life=7)), True)
        self.alike(Restarting().shows(7), (0, 7))
        for one in ALL:
            for wrong in OTHERS + [-1, FAR + 1]:
                self.fails(BadNumber(wrong), one.shows, wrong, None)
                self.fails(BadNumber(wrong), one.shows, 1, wrong)

    def test_whether_any_value_is_one(self):
        met = [{one.shows(total) for total in range(60)} for one in ALL[:4]]
        values = list(range(-3, 70)) + [(a,) for a in range(-1, 4)] + list(itertools.product(range(-1, 7), repeat=2))
        for one, found in zip(ALL, met):
            for value in values:
                if one == Plain() and value in range(60, 70):
                    continue
                self.assertIs(one.is_reading(value), value in found, (str(one), value))
        for value in OTHERS + [(True, 0), [1, 3], (1, 3, 5), (1, None)]:
            for one in (Plain(), Wrapping(5), Dials(4, 6)):
                self.assertIs(one.is_reading(value), False)
        for value, wanted in [((0, 0), True), ((9, 10 ** 41), True), ((0, -1), False), ((-1, 0), False), ((0,), False),
                              ([0, 0], False), ((0, True), False), ((0, 0, 0), False), (5, False), (None, False)]:
            self.assertIs(Restarting().is_reading(value), wanted)
        self.assertTrue(Plain().is_reading(10 ** 41))

    def test_least_totals_and_between(self):
        for one in ALL[1:4]:
            totals = range(30)
            for reading in {one.shows(total) for total in totals}:
                self.alike(one.total_of(reading), min(k for k in totals if one.shows(k) == reading))
                for later in {one.shows(total) for total in totals}:
                    begin = one.total_of(reading)
                    wanted = min(k for k in totals if one.shows(begin + k) == later)
                    self.alike(one.between(reading, later), wanted)
        self.alike((Plain().total_of(reading=7), Plain().between(earlier=3, later=7), Plain().between(7, 3)), (7, 4, None))
        again = Restarting()
        self.alike((again.total_of((3, 7)), again.between((3, 7), (3, 9)), again.between((3, 7), (3, 7)),
                    again.between((3, 7), (3, 6)), again.between((3, 7), (4, 9)), again.between((3, 7), (2, 9))),
                   (7, 2, 0, None, None, None))
        far = Dials(1000, 999, 997, 991, 983, 977)
        dice = random.Random(1)
        for _ in range(20):
            a, b = dice.randrange(far.modulus), dice.randrange(far.modulus)
            self.assertEqual(far.total_of(far.shows(a)), a)
            self.assertEqual(far.between(far.shows(a), far.shows(b)), (b - a) % far.modulus)

    def test_wrong_readings(self):
        for one in ALL:
            good = one.shows(1)
            for wrong in [None, True, "1", [], -1, (-1, 0), (1, 2, 3)]:
                self.fails(BadReading("reading"), one.total_of, wrong)
                self.fails(BadReading("earlier"), one.between, wrong, wrong)
                self.fails(BadReading("later"), one.between, good, wrong)

    def test_read_back(self):
        self.alike(read_back(Plain(), ()), ())
        self.alike(read_back(Plain(), [5]), ((0,),))
        self.alike(read_back(Plain(), [5, 5, 9, 3, 4]), ((0, 0, 4), (0, 1)))
        self.alike(read_back(display=Dials(4, 6), readings=((1, 5), (3, 1), (3, 1), (0, 0))), ((0, 2, 2, 7),))
        self.alike(read_back(Restarting(), [(0, 3), (1, 3), (0, 3), (0, 2)]), ((0,), (0,), (0,), (0,)))
        for wrong in OTHERS + [5]:
            self.fails(BadRegister("display"), read_back, wrong, None)
        for wrong in [None, True, "3", "", {}, {3: 3}, 3]:
            self.fails(BadReading("readings"), read_back, Plain(), wrong)
        self.fails(BadReading(2), read_back, Wrapping(5), [1, 2, 5, 6])
        self.fails(BadReading(0), read_back, Plain(), (True, False))

    def test_texts(self):
        texts = ["plain", "modulo 2", "modulo 1000000000000000000", "restarting", "dials 2", "dials 4 6 1000 2 2 3"]
        for text in texts:
            self.assertEqual(str(Register.read(text)), text)
        self.alike([Register.read(str(one)) == one for one in ALL], [True] * 5)
        for wrong in OTHERS:
            if not isinstance(wrong, str):
                self.fails(BadText(0, 0), Register.read, wrong)
        told = [("", 0), ("Plain", 0), ("plain ", 1), ("plain 1", 1), ("restarting 0", 1), ("modulo", 1), ("modulo 1", 1),
                ("modulo 1000000000000000001", 1), ("modulo 5 5", 2), ("modulo x", 1), ("dials", 1), ("dials 1", 1),
                ("dials 4 1001", 2), ("dials 2 2 2 2 2 2 2", 7), ("dials 4 ", 2), ("dials 2 2 2 2 2 2 x", 7), ("5", 0)]
        for text, word in told:
            self.fails(BadText(0, word), Register.read, text)


if __name__ == "__main__":
    unittest.main()
