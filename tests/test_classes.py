"""How trains can be told apart."""

import itertools
import unittest

from gaugeroad.classes import Alike, Parted, alike, beginning_of, rows_of
from gaugeroad.errors import BadMarks, BadTrain, TooMany, Unlike
from gaugeroad.look_classes import shows_alike
from gaugeroad.marks import Marks
from gaugeroad.parts import Divider, Gear, Slips, Wheel
from gaugeroad.shafts import Shaft
from gaugeroad.trains import Train
from gaugeroad.verdicts import Verdict
from helpers import OTHERS, Case

WHEELS = [(1,), (2,), (3,), (1, 2), (2, 1), (1, 1, 2), (1, 2, 3), (3, 2, 1), (2, 2, 1, 1)]
GEARS = [(), (Divider(2),), (Gear(2, 3),), (Divider(2), Divider(2)), (Gear(2, 3), Divider(2)), (Divider(4),)]
TRAINS = [Train(*parts) for parts in GEARS] + [Train(Wheel(*teeth), *gears) for teeth in WHEELS for gears in GEARS]


def sizes(train):
    return [part.turn if isinstance(part, Wheel) else part.down for part in train.parts]


def word_from(train, beginnings, many):
    """The signs that a shaft lets out, one unit after the other."""
    shaft = Shaft(train, *beginnings)
    return "".join(str(shaft.move(1)) for _ in range(many))


def all_words(train, many):
    return {word_from(train, row, many) for row in itertools.product(*[range(size) for size in sizes(train)])}


class TestClasses(Case):
    def test_rows(self):
        for train in TRAINS:
            found = {}
            many = 1
            for size in sizes(train):
                many *= size
            for word in all_words(train, many):
                row = Marks(many, *[k for k, sign in enumerate(word) if sign == "1"]).turned()
                found[row.period, row.places] = row
            told = rows_of(train=train)
            self.assertIsInstance(told, tuple)
            self.assertEqual([(row.period, row.places) for row in told], sorted(found))

    def test_verdicts(self):
        for one, other in itertools.product(TRAINS[::3], TRAINS[::2]):
            told = alike(one, other)
            self.assertIsInstance(told, Verdict)
            self.assertIs(bool(told), rows_of(one) == rows_of(other))
            if told:
                self.assertEqual(told, Alike(rows_of(one)))
            else:
                self.assertEqual(told, Parted(least_word(one, other)))
            self.assertIs(shows_alike(one, other, told), True)

    def test_words_have_beginnings(self):
        for train in TRAINS[::4]:
            for many in (0, 1, 4, 6):
                words = all_words(train, many)
                for signs in itertools.product("01", repeat=many):
                    word = "".join(signs)
                    found = beginning_of(train, word)
                    if word in words:
                        self.assertIsInstance(found, tuple)
                        self.assertEqual(word_from(train, found, many), word)
                    else:
                        self.assertIsNone(found)

    def test_great_ones(self):
        long, other = Train(Divider(50), Divider(60)), Train(Divider(60), Divider(50))
        self.assertEqual([str(row) for row in rows_of(long)], ["3000 at 0"])
        self.assertEqual(alike(long, other), Alike((Marks(3000, 0),)))
        word = ("0" * 2999 + "1") * 2
        self.assertEqual(word_from(long, beginning_of(long, word), 6000), word)
        self.assertIsNone(beginning_of(long, "0" * 6000))
        told = alike(long, Train(Divider(50), Divider(59)))
        self.assertEqual(told, Parted("0" * 2950))
        told = alike(Train(Wheel(300), Divider(10)), Train(Wheel(*[10] * 29, 9), Divider(10)))
        self.assertTrue(shows_alike(Train(Wheel(300), Divider(10)), Train(Wheel(*[10] * 29, 9), Divider(10)), told))

    def test_papers(self):
        rows = (Marks(3, 0),)
        self.alike([bool(Alike(None)), bool(Parted(None))], [True, False])
        self.assertEqual((Alike(rows=rows).rows, Parted(word=[1]).word), (rows, [1]))
        self.assertEqual(Alike(1), Alike(True))
        self.assertNotEqual(Alike("1"), Parted("1"))
        self.assertNotEqual(Alike("1"), Alike("2"))
        self.assertNotEqual(Parted("1"), "1")

    def test_errors_in_their_order(self):
        fine, rough, loose = Train(Wheel(2)), Train(Gear(3, 2)), Train(Slips(2))
        great = Train(Wheel(*[7] * 11), Divider(39))
        just = Train(Wheel(3), Divider(20), Divider(50))
        for wrong in OTHERS + [Wheel(2)]:
            self.fails(BadTrain("train"), rows_of, wrong)
            self.fails(BadTrain("train"), beginning_of, wrong, None)
            for work in (alike, lambda one, other: shows_alike(one, other, None)):
                self.fails(BadTrain("one"), work, wrong, wrong)
                self.fails(BadTrain("other"), work, rough, wrong)
        for one in (rough, loose):
            self.fails(Unlike("train"), rows_of, one)
            self.fails(Unlike("train"), beginning_of, one, None)
            for work in (alike, lambda one, other: shows_alike(one, other, None)):
                self.fails(Unlike("one"), work, one, one)
                self.fails(Unlike("other"), work, great, one)
                self.fails(TooMany("beginnings", 3000), work, great, fine)
                self.fails(TooMany("beginnings", 3000), work, fine, great)
        self.fails(TooMany("beginnings", 3000), rows_of, great)
        self.fails(TooMany("beginnings", 3000), beginning_of, great, None)
        self.assertEqual([str(row) for row in rows_of(just)], ["3000 at 0"])
        for wrong in OTHERS + ["2", "01 ", "0" * 6001, "0\n"]:
            if wrong != "":
                self.fails(BadMarks("word"), beginning_of, fine, wrong)
        self.assertIsNone(beginning_of(fine, "0" * 6000))
        self.assertIsNotNone(beginning_of(train=fine, word=""))

    def test_looks_at_rows(self):
        one, other, third = Train(Wheel(9, 11, 10, 10), Divider(2)), Train(Wheel(20, 20)), Train(Wheel(20))
        rows = rows_of(one)
        self.assertEqual(len(rows), 2)
        self.assertTrue(shows_alike(one, one, Alike(rows)))
        self.assertTrue(shows_alike(one, one, Alike(rows[::-1])))
        for wrong in [list(rows), rows[:1], rows + rows[:1], (rows[0], rows[1] << 1), rows + (Marks(2, 0),), (), None,
                      (rows[0], None), [rows], str(rows[0])]:
            self.assertIs(shows_alike(one, one, Alike(wrong)), False)
        self.assertIs(shows_alike(one, third, Alike(rows)), False)
        self.assertIs(shows_alike(one, third, Alike(rows_of(third))), False)
        self.assertIs(shows_alike(third, one, Alike(rows_of(third))), False)
        self.assertIs(shows_alike(other, third, Alike(rows_of(third))), True)
        for value in OTHERS + [rows, Verdict()]:
            self.assertIs(shows_alike(one, one, value), False)

    def test_looks_at_words(self):
        one, other = Train(Wheel(3)), Train(Wheel(1, 2))
        self.assertTrue(shows_alike(one, other, Parted("11")))
        self.assertTrue(shows_alike(one, other, Parted("00")))
        self.assertTrue(shows_alike(other, one, Parted("11")))
        self.assertTrue(shows_alike(one, other, Parted(("001" * 2000))))
        for wrong in ["", "0", "01", "000", "111", "001" * 2000 + "0", "2", None, 11, ("1", "1"), b"11", True]:
            self.assertIs(shows_alike(one, other, Parted(wrong)), False)
        for word in ("", "11", "001"):
            self.assertIs(shows_alike(one, one, Parted(word)), False)


def least_word(one, other):
    """The least of the shortest words that just one of both lets out."""
    many = 0
    while all_words(one, many) == all_words(other, many):
        many += 1
    return min(all_words(one, many) ^ all_words(other, many))


if __name__ == "__main__":
    unittest.main()
