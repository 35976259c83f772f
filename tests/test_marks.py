"""Rows of marks."""

import itertools
import random
import unittest

from gaugeroad.errors import BadMarks, BadNumber, BadText, Nothing
from gaugeroad.growths import Growth
from gaugeroad.marks import Marks
from helpers import OTHERS, Case

FAR = 10 ** 40


def small():
    for period in range(1, 8):
        for many in range(period + 1):
            for places in itertools.combinations(range(period), many):
                yield period, places


class TestMarks(Case):
    def test_normal_form(self):
        for period, places in small():
            marks = Marks(period, *reversed(places))
            inside = [v for v in range(-50, 50) if v % period in places]
            self.assertEqual([v for v in range(-50, 50) if v in marks], inside)
            least = min(p for p in range(1, period + 1)
                        if all((v in inside) == (v + p in inside) for v in range(-50, 40)))
            self.assertEqual((marks.period, marks.places), (least, tuple(k for k in places if k < least)))
            self.assertEqual((len(marks), list(marks)), (len(marks.places), list(marks.places)))
            self.assertEqual(Marks.read(str(marks)), marks)
            text = " ".join([str(least), "at"] + [str(k) for k in marks.places] + ["-"] * (not marks.places))
            self.assertEqual(str(marks), text)

    def test_equal_at_the_same_places(self):
        self.assertEqual(Marks(4, 2, 0), Marks(2, 0))
        self.assertEqual(Marks(5), Marks(period=1))
        self.assertNotEqual(Marks(4, 1), Marks(4, 2))
        self.assertNotEqual(Marks(4, 1), Marks(5, 1))
        for value in OTHERS:
            self.assertFalse(Marks(1) == value)

    def test_wrong_parts(self):
        for wrong in OTHERS + [0, -1, 3001]:
            self.fails(BadMarks("period"), Marks, wrong, None)
        for wrong in OTHERS + [-1, 6]:
            self.fails(BadMarks("places"), Marks, 6, 0, wrong)
        self.fails(BadMarks("places"), Marks, 6, 1, 2, 1)
        self.assertEqual(len(Marks(3000, *range(0, 2999))), 2999)
        self.assertEqual(Marks(3000, *range(3000)), Marks(1, 0))

    def test_whether_a_value_is_in(self):
        marks = Marks(2, 1)
        for value in OTHERS + [1.0, "1"]:
            self.assertFalse(value in marks)
        self.assertTrue(-1 in marks and 10 ** 41 + 1 in marks and 0 not in marks)

    def test_mirror_and_turns(self):
        for period, places in small():
            marks = Marks(period, *places)
            there = [v for v in range(-30, 31) if v in marks]
            self.assertEqual([v for v in range(-30, 31) if v in ~marks], sorted(-v for v in there))
            turns = []
            for k in list(range(-8, 9)) + [10 ** 12, -10 ** 12]:
                turned = marks << k
                self.assertEqual([v for v in range(-9, 9) if v in turned],
                                 [v for v in range(-9, 9) if (v + k) % period in places])
                turns.append(turned)
                self.assertIs(marks.alike(turned), True)
                self.assertEqual(turned.turned(), marks.turned())
            self.assertEqual(marks.turned().places, min(turn.places for turn in turns))
            self.assertIn(marks.turned(), turns)
        for wrong in OTHERS + [10 ** 12 + 1, -10 ** 12 - 1]:
            self.fails(BadNumber(wrong), lambda k: Marks(2, 1) << k, wrong)

    def test_alike(self):
        rows = [Marks(period, *places) for period, places in small() if period < 6]
        for one in rows:
            for other in rows:
                self.assertIs(one.alike(other=other), any(one << k == other for k in range(6)))
        for wrong in OTHERS + [5]:
            self.fails(BadMarks("other"), rows[0].alike, wrong)

    def test_turned_of_long_ones(self):
        dice = random.Random(5)
        for _ in range(30):
            period = dice.randint(20, 60)
            marks = Marks(period, *dice.sample(range(period), dice.randint(1, period)))
            best = min((marks << k).places for k in range(period))
            self.assertEqual(marks.turned().places, best)

    def test_passed(self):
        for period, places in small():
            marks = Marks(period, *places)
            for low in range(-9, 9):
                for high in range(low, low + 20):
                    wanted = len([v for v in range(low + 1, high + 1) if v % period in places])
                    self.assertEqual(marks.passed(low, high), wanted)
            for d in range(0, 20):
                found = [marks.passed(b, b + d) for b in range(period)]
                self.assertEqual((marks.least(d), marks.most(d)), (min(found), max(found)))
        marks = Marks(3, 1)
        self.assertEqual(marks.passed(low=-FAR, high=FAR), (FAR - 1) // 3 - (-FAR - 1) // 3)
        self.assertEqual(marks.most(FAR), -(-FAR // 3))
        self.assertEqual(marks.least(d=FAR), FAR // 3)

    def test_growths(self):
        for period, places in small():
            marks = Marks(period, *places)
            self.assertEqual(marks.least_growth.row(0, 25), tuple(marks.least(d) for d in range(25)))
            self.assertEqual(marks.most_growth.row(0, 25), tuple(marks.most(d) for d in range(25)))
        self.assertEqual(Marks(9).most_growth, Growth((0,)))
        dice = random.Random(3)
        marks = Marks(300, *dice.sample(range(300), 100))
        self.assertEqual(marks.least_growth.row(0, 700), tuple(marks.least(d) for d in range(700)))
        self.assertEqual(marks.most_growth.row(0, 700), tuple(marks.most(d) for d in range(700)))

    def test_numbers(self):
        marks = Marks(4, 1, 2)
        for wrong in OTHERS + [FAR + 1, -FAR - 1]:
            self.fails(BadNumber(wrong), marks.passed, wrong, None)
            self.fails(BadNumber(wrong), marks.signs, wrong, None)
        for wrong in OTHERS + [4, FAR + 1]:
            self.fails(BadNumber(wrong), marks.passed, 5, wrong)
        for wrong in OTHERS + [-1, FAR + 1]:
            for work in (marks.least, marks.most, marks.nth, Marks(1).nth):
                self.fails(BadNumber(wrong), work, wrong)
        for wrong in OTHERS + [-1, 5001]:
            self.fails(BadNumber(wrong), marks.signs, 0, wrong)

    def test_nth_and_signs(self):
        for period, places in small():
            marks = Marks(period, *places)
            if places:
                there = [v for v in range(200) if v % period in places]
                self.assertEqual([marks.nth(n) for n in range(20)], there[:20])
            else:
                self.fails(Nothing(), marks.nth, 0)
            for begin in range(-9, 9):
                wanted = "".join("1" if v % period in places else "0" for v in range(begin + 1, begin + 11))
                self.assertEqual(marks.signs(begin, 10), wanted)
        marks = Marks(4, 1, 2)
        self.assertEqual(marks.nth(n=FAR), FAR * 2 + 1)
        self.assertEqual(marks.signs(begin=3, many=0), "")
        self.assertEqual(len(marks.signs(FAR, 5000)), 5000)
        self.assertEqual(marks.signs(FAR, 4), "1100")

    def test_of_teeth(self):
        for teeth in itertools.product((1, 2, 5), repeat=3):
            marks = Marks.of_teeth(*teeth)
            ends = {sum(teeth[:k]) % sum(teeth) for k in range(3)}
            self.assertEqual([v for v in range(40) if v in marks], [v for v in range(40) if v % sum(teeth) in ends])
        self.assertEqual(Marks.of_teeth(2, 2), Marks(2, 0))
        self.assertEqual(str(Marks.of_teeth(3000)), "3000 at 0")
        self.assertEqual(Marks.of_teeth(*[1] * 3000), Marks(1, 0))
        self.fails(BadMarks("teeth"), Marks.of_teeth)
        for wrong in [(3001,), (3000, 1), (0,), (1, -1), (True,), ("1",), ((1, 2),), (None, 3), tuple([1] * 3001)]:
            self.fails(BadMarks("teeth"), Marks.of_teeth, *wrong)

    def test_texts(self):
        for wrong in OTHERS:
            if not isinstance(wrong, str):
                self.fails(BadText(0, 0), Marks.read, wrong)
        told = [("", 0), ("0 at -", 0), ("3001 at -", 0), ("-1 at -", 0), ("6", 1), ("6 in 1", 1), ("6 at", 2),
                ("6 at ", 2), ("6 at -1", 2), ("6 at 6", 2), ("6 at 1 1", 3), ("6 at 3 1", 3), ("6 at 5 6", 3),
                ("6 at 1 -", 3), ("1 at - 0", 3), ("1 at - -", 3), ("6 at 0 1 3 ", 5), ("06 at 1", 0), ("6 at 01", 2),
                ("6 at -", 0), ("6 at 0 3", 0), ("2 at 0 1", 0), ("6 at 0 3 x", 4), ("at 1", 0)]
        for text, word in told:
            self.fails(BadText(0, word), Marks.read, text)
        self.assertEqual(Marks.read("3000 at 2999"), Marks(3000, 2999))
        self.assertEqual(Marks.read("1 at -"), Marks(1))
        self.assertEqual(Marks.read("1 at 0"), Marks(1, 0))


if __name__ == "__main__":
    unittest.main()
