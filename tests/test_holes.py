"""Whether differences of totals can be told from readings."""

import itertools
import unittest

from gaugeroad.errors import BadNumber, BadPace, BadRegister, BadTrain, Endless, Unlike
from gaugeroad.holes import Sure, Unsure, least_modulus, longest_sure_hole, sureness
from gaugeroad.look_holes import shows_sure
from gaugeroad.paces import Pace
from gaugeroad.parts import Divider, Gear, Slips, Wheel
from gaugeroad.registers import Dials, Plain, Restarting, Wrapping
from gaugeroad.trains import Train
from gaugeroad.verdicts import Verdict
from helpers import OTHERS, Case
from test_paces import all_rows, keeps
from test_trains import all_counts

TRAINS = [Train(), Train(Wheel(5)), Train(Wheel(1, 2)), Train(Slips(2)), Train(Wheel(1, 1, 3), Divider(2)),
          Train(Gear(2, 3), Slips(3, lost=2))]
PACES = [Pace((1, 2)), Pace((1, 2), (2, 3)), Pace((1, 3), (4, 6)), Pace((3, 4), (2, 3))]


def is_right(train, display, pace, hole, told):
    """Whether a verdict is right, by the words of the document."""
    if isinstance(told, Sure):
        if display.modulus is None:
            return told.times == ()
        ticks = sum(n * rule[0] for n, rule in zip(told.times, pace.rules))
        amount = sum(n * rule[1] for n, rule in zip(told.times, pace.rules))
        fits = len(told.times) == len(pace) and all(type(n) is int and n >= 0 for n in told.times)
        return fits and ticks >= hole and train.most(amount) < display.modulus
    row = told.amounts
    fits = len(row) == hole and all(type(n) is int and n >= 0 for n in row)
    return fits and all(keeps(row[:k], pace) for k in range(1, hole + 1)) and train.most(sum(row)) == display.modulus


class TestHoles(Case):
    def test_over_all_histories(self):
        for train, pace in itertools.product(TRAINS, PACES):
            for hole in range(1, 5):
                met = {sum(row) for row in all_rows(pace, hole, 4)}
                most = max(max(all_counts(train, amount)) for amount in met)
                self.alike(least_modulus(train, pace, hole), max(2, most + 1))
                for modulus in range(2, 9):
                    told = sureness(train, Wrapping(modulus), pace, hole)
                    self.assertIs(bool(told), most < modulus)
                    self.assertIsInstance(told, Sure if told else Unsure)
                    self.assertTrue(is_right(train, Wrapping(modulus), pace, hole, told))
                    self.assertIs(shows_sure(train, Wrapping(modulus), pace, hole, told), True)

    def test_all_small_papers_are_looked_at(self):
        for train, pace in itertools.product(TRAINS, PACES):
            for hole, modulus in itertools.product((1, 2, 3), (2, 3)):
                display = Wrapping(modulus)
                let = set(all_rows(pace, hole, 4))
                for row in itertools.product(range(5), repeat=hole):
                    wanted = row in let and max(all_counts(train, sum(row))) == modulus
                    self.assertIs(shows_sure(train, display, pace, hole, Unsure(row)), wanted, row)
                for times in itertools.product(range(4), repeat=len(pace)):
                    wanted = is_right(train, display, pace, hole, Sure(times))
                    self.assertIs(shows_sure(train, display, pace, hole, Sure(times)), wanted)

    def test_papers_of_other_kinds_are_not_right(self):
        train, pace, display = Train(Wheel(5)), Pace((1, 3), (4, 6)), Wrapping(3)
        self.assertIs(shows_sure(train=train, display=display, pace=pace, hole=3, value=Sure((0, 1))), True)
        for wrong in OTHERS + [(0,), (0, 1, 0), [0, 1], (0, True), (0, -1), (-4, 5), (0, "1"), (0, None), 5]:
            self.assertIs(shows_sure(train, display, pace, 3, Sure(wrong)), False)
            self.assertIs(shows_sure(train, display, pace, 3, Unsure(wrong)), False)
            self.assertIs(shows_sure(train, display, pace, 3, wrong), False)
        self.assertIs(shows_sure(train, display, pace, 3, Sure((10 ** 41, 1))), False)
        for wrong in [(3, 3, 0, 0), (3, 3), [3, 3, 0], (3, 3, False), (7, -1, 0), (10 ** 41, 0, 0), (0, 3, 3, 0)]:
            self.assertIs(shows_sure(train, Wrapping(2), pace, 3, Unsure(wrong)), False)
        self.assertIs(shows_sure(train, Wrapping(2), pace, 3, Unsure((0, 3, 3))), True)
        for display in (Plain(), Restarting()):
            self.assertIs(shows_sure(train, display, pace, 3, Sure(())), True)
            for wrong in (Sure([]), Sure((0, 1)), Sure(None), Unsure(()), Unsure((3, 3, 0)), ()):
                self.assertIs(shows_sure(train, display, pace, 3, wrong), False)
        longest = Pace((1, 10 ** 6))
        told = sureness(Train(), Wrapping(10 ** 9), longest, 1000)
        self.assertIs(shows_sure(Train(), Wrapping(10 ** 9), longest, 1000, told), True)
        self.assertIs(shows_sure(Train(), Wrapping(10 ** 9), longest, 1000, Sure((1000,))), False)
        self.assertIs(shows_sure(Train(), Wrapping(10 ** 9 + 1), longest, 1000, Sure((1000,))), True)
        self.assertIs(shows_sure(Train(), Wrapping(10 ** 9 + 1), longest, 1000, Sure((999,))), False)

    def test_longest_holes(self):
        for train, pace in itertools.product(TRAINS, PACES):
            for display in (Wrapping(2), Wrapping(3), Wrapping(7), Dials(2, 3)):
                wanted = max([hole for hole in range(1, 100) if sureness(train, display, pace, hole)], default=0)
                self.assertLess(wanted, 99)
                self.alike(longest_sure_hole(train=train, display=display, pace=pace), wanted)
        slow = longest_sure_hole(Train(Wheel(400), *[Divider(60)] * 5), Wrapping(10 ** 18), Pace((60, 1)))
        self.assertEqual(slow, ((10 ** 18 - 1) * 400 * 60 ** 5) * 60)
        for display in (Plain(), Restarting()):
            self.fails(Endless(), longest_sure_hole, Train(), display, PACES[0])

    def test_without_a_modulus(self):
        for display in (Plain(), Restarting()):
            self.alike(sureness(TRAINS[0], display, PACES[0], 1000).times, ())

    def test_edges(self):
        pace = Pace((1, 10 ** 6))
        told = sureness(train=Train(), display=Wrapping(10 ** 9), pace=pace, hole=1000)
        self.assertEqual((bool(told), sum(told.amounts), len(told.amounts)), (False, 10 ** 9, 1000))
        told = sureness(Train(), Wrapping(10 ** 9 + 1), pace, 1000)
        self.alike((bool(told), told.times), (True, (1000,)))
        self.alike(least_modulus(train=Train(), pace=pace, hole=1000), 10 ** 9 + 1)
        self.alike(least_modulus(Train(Divider(60)), Pace((60, 1)), 1), 2)

    def test_papers(self):
        self.assertTrue(issubclass(Sure, Verdict) and issubclass(Unsure, Verdict))
        self.alike([bool(Sure(None)), bool(Unsure(None))], [True, False])
        self.alike((Sure(times=[1]).times, Unsure(amounts="x").amounts), ([1], "x"))
        self.assertEqual((Sure((1, 2)), Unsure(0)), (Sure((1, 2)), Unsure(False)))
        self.assertNotEqual(Sure((1,)), Unsure((1,)))
        self.assertNotEqual(Sure((1,)), Sure((2,)))
        self.assertNotEqual(Unsure((1,)), Unsure([1]))
        self.assertNotEqual(Sure(()), ())

    def test_errors_in_their_order(self):
        rough, pace = Train(Gear(3, 2)), PACES[0]
        for wrong in OTHERS + [5]:
            self.fails(BadTrain(None), sureness, wrong, wrong, wrong, wrong)
            self.fails(BadRegister("display"), sureness, rough, wrong, wrong, wrong)
            self.fails(BadPace(None), sureness, rough, Plain(), wrong, None)
            self.fails(BadTrain(None), shows_sure, wrong, wrong, wrong, wrong, wrong)
            self.fails(BadRegister("display"), shows_sure, rough, wrong, wrong, wrong, wrong)
            self.fails(BadPace(None), shows_sure, rough, Plain(), wrong, None, wrong)
            self.fails(BadTrain(None), least_modulus, wrong, wrong, wrong)
            self.fails(BadPace(None), least_modulus, rough, wrong, None)
            self.fails(BadTrain(None), longest_sure_hole, wrong, wrong, wrong)
            self.fails(BadRegister("display"), longest_sure_hole, rough, wrong, wrong)
            self.fails(BadPace(None), longest_sure_hole, rough, Plain(), wrong)
        for wrong in OTHERS + [0, -1, 1001]:
            self.fails(BadNumber(wrong), sureness, rough, Plain(), pace, wrong)
            self.fails(BadNumber(wrong), least_modulus, rough, pace, wrong)
            self.fails(BadNumber(wrong), shows_sure, rough, Plain(), pace, wrong, Sure(()))
        self.fails(Unlike("train"), shows_sure, rough, Plain(), pace, 1, Sure(()))
        self.fails(Unlike("train"), sureness, rough, Plain(), pace, 1)
        self.fails(Unlike("train"), least_modulus, rough, pace, 1)
        self.fails(Unlike("train"), longest_sure_hole, rough, Plain(), pace)


if __name__ == "__main__":
    unittest.main()
