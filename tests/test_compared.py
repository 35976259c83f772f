"""Roads and trains held against each other."""

import itertools
import random
import unittest

from gaugeroad.cases import Case as RoadCase
from gaugeroad.cases import case_above, case_below
from gaugeroad.compared import (Narrow, OtherWindow, SameWindows, Wider, alike_windows, from_on, never_wider, order)
from gaugeroad.errors import BadRoad, BadTrain, TooMany, Unlike
from gaugeroad.gaps import above, above_growth, below, below_growth
from gaugeroad.growths import Growth
from gaugeroad.habits import Habit
from gaugeroad.look_compared import shows_alike_windows, shows_never_wider
from gaugeroad.look_gaps import weigh
from gaugeroad.looks import Looks
from gaugeroad.losses import Losses
from gaugeroad.paces import Pace
from gaugeroad.papers import AtMost, paper_always, paper_at_most
from gaugeroad.parts import Divider, Gear, Slips, Wheel
from gaugeroad.ratios import Ratio
from gaugeroad.registers import Restarting, Wrapping
from gaugeroad.roads import Road
from gaugeroad.shafts import Shaft
from gaugeroad.trains import Train
from gaugeroad.verdicts import Verdict
from helpers import OTHERS, Case
from test_trains import all_counts

TRAINS = [Train(), Train(Wheel(2)), Train(Wheel(3)), Train(Wheel(1, 2)), Train(Wheel(2), Divider(2)), Train(Slips(2)),
          Train(Wheel(1, 2), Slips(3, lost=2)), Train(Wheel(2, 3), Gear(2, 3)), Train(Gear(3, 2))]
PACES = [Pace((1, 1)), Pace((1, 2)), Pace((1, 2), (2, 3)), Pace((2, 1)), Pace((1, 2), (3, 2))]
HABITS = [Habit.steady(1), Habit.steady(2), Habit.steady(3), Habit.missing(1, 1), Habit.loose(2, 1), Habit.steady(4)]
FAR = 120


def some_road(dice):
    return Road(dice.choice(TRAINS), dice.choice(PACES), dice.choice(HABITS), zoom=dice.choice([None, None, Gear(2, 3)]))


def wider_at(one, other, length):
    """The side on which one has the wider gap at a length, None without one."""
    for side, gap in (("above", above), ("below", below)):
        if gap(other, length).less(gap(one, length)):
            return side
    return None


class TestRoads(Case):
    def test_beside_the_gaps_of_each_length(self):
        orders = set()
        for seed in range(120):
            dice = random.Random(seed)
            one = some_road(dice)
            parts = {"looks": dice.choice(HABITS)} if seed % 3 else {"train": dice.choice(TRAINS)}
            other = one.changed(**parts) if seed % 2 else some_road(dice)
            ways = [self.check(one, other), self.check(other, one)]
            wanted = {(True, True): "alike", (True, False): "better", (False, True): "worse", (False, False): "apart"}
            self.assertEqual(order(one, other), wanted[tuple(ways)])
            orders.add(order(one, other))
        self.assertEqual(orders, {"alike", "better", "worse", "apart"})

    def check(self, one, other):
        told = never_wider(one, other)
        sides = [wider_at(one, other, length) for length in range(FAR)]
        wide = [length for length, side in enumerate(sides) if side]
        self.assertIs(bool(told), wide == [])
        self.assertIs(shows_never_wider(one, other, told), True)
        if told:
            self.assertTrue(told == Narrow((above_growth(one), above_growth(other)), (below_growth(one), below_growth(other))))
            self.assertEqual(from_on(one, other), 0)
            return True
        self.assertEqual((told.length, told.side), (wide[0], sides[wide[0]]))
        made = case_above if told.side == "above" else case_below
        self.assertTrue(told.case == made(one, told.length))
        self.assertTrue(told.paper == paper_at_most(other, told.side, told.length))
        # Behind so many lengths either for ever, or no more.
        self.assertEqual(from_on(one, other), None if wide[-1] > FAR - 9 else wide[-1] + 1)
        return False

    def test_what_can_only_lose_never_narrows(self):
        road = Road(Train(Wheel(1, 2)), Pace((1, 2), (3, 4)), Looks(2, 0, 1, losses=Losses.runs(1, 1)))
        more = road.changed(looks=Looks(2, 0, 1, losses=Losses.runs(2, 1)))
        slips = road.changed(train=Train(Wheel(1, 2), Slips(4)))
        often = road.changed(train=Train(Wheel(1, 2), Slips(4, lost=2)))
        bound = road.changed(pace=Pace((1, 2), (3, 4), (5, 6)))
        missing = road.changed(looks=Habit.missing(2, 1) | Habit.steady(2)), road.changed(looks=Habit.steady(2))
        orders = []
        for narrow, wide in [(road, more), (road, slips), (slips, often), (bound, road), missing[::-1]]:
            self.assertTrue(never_wider(narrow, wide))
            self.assertEqual(from_on(narrow, wide), 0)
            orders.append(order(narrow, wide))
        self.assertEqual(orders, ["better", "better", "better", "alike", "better"])
        self.assertEqual(order(road, road.changed(display=Restarting(), width=9)), "alike")

    def test_what_binds_beside_what_loses_by_lot(self):
        orders, rules = [], [Losses.none(), Losses.runs(1, 1), Losses.runs(2, 1), Losses.runs(1, 2), Losses.share(1, 3)]
        for seed in range(60):
            dice = random.Random(seed)
            road = Road(dice.choice(TRAINS), dice.choice(PACES), dice.choice(HABITS))
            one, other = dice.choice(rules), dice.choice(rules)
            rule = dice.choice([(1, 1), (2, 3), (3, 4), (4, 3), (5, 9)])
            ages, late = dice.choice([(0,), (0, 1)]), dice.randint(0, 1)
            narrow = [road.changed(looks=Looks(2, *ages, late=late, losses=one & other)),
                      road.changed(pace=road.pace & Pace(rule)), road, road, road.changed(train=Train(Wheel(1, 2), Slips(4))),
                      road.changed(looks=Looks(2, *ages, losses=one))]
            wide = [road.changed(looks=Looks(2, *ages, late=late, losses=one | other)), road,
                    road.changed(looks=road.habit | dice.choice(HABITS)), road.changed(train=road.train + Slips(5, lost=2)),
                    road.changed(train=Train(Wheel(1, 2), Slips(4, lost=3))), road.changed(looks=Looks(2, *ages, late=1, losses=one))]
            for left, right in zip(narrow, wide):
                told = never_wider(left, right)
                self.assertTrue(told, seed)
                self.assertIs(shows_never_wider(left, right, told), True)
                orders.append(order(left, right))
        self.assertEqual(set(orders), {"better", "alike"})

    def test_wheels_turned_and_mirrored(self):
        wheel = Wheel(1, 2, 3, 3)
        road = Road(Train(wheel, Gear(2, 3)), Pace((1, 2), (3, 4)), Habit.missing(2, 1))
        for other in (wheel << 1, wheel << 3, ~wheel, ~wheel << 2):
            changed = road.changed(train=Train(other, Gear(2, 3)))
            self.assertEqual(order(road, changed), "alike")
            self.assertTrue(alike_windows(road.train, changed.train))

    def test_far_lengths(self):
        slow = Road(Train(Wheel(20)), Pace((60, 1), (1, 1)), Habit.steady(1))
        fine = slow.changed(train=Train(Wheel(19)))
        # The wider gap below needs the nineteenth unit.
        self.assertEqual(from_on(fine, slow), 0)
        self.assertEqual(order(fine, slow), "better")
        self.assertIsNone(from_on(slow, fine))
        told = never_wider(slow, fine)
        self.assertEqual((told.side, told.length), ("above", 1))
        one = Road(Train(Wheel(1), Slips(2)), Pace((60, 1), (1, 1)), Habit.steady(1))
        many = one.changed(train=Train(Slips(60, lost=59)))
        # Both lose the first one, only one of them the second one, in a tick 60 later.
        self.assertEqual(never_wider(many, one).length, 61)
        late = one.changed(train=Train(Slips(20, lost=11)))
        early = one.changed(train=Train(Slips(20, lost=10)))
        self.assertEqual(order(early, late), "better")
        # The eleventh unit comes first in the tick 600.
        self.assertEqual(below(late, 600).less(below(late, 601)), True)
        self.fails(TooMany("ticks", 600), never_wider, late, early)
        self.assertIsNone(from_on(late, early))
        self.assertEqual(order(late, early), "worse")
        near = one.changed(train=Train(Slips(20, lost=9)))
        self.assertEqual(never_wider(early, near).length, 541)

    def test_growths_that_are_too_long(self):
        late = Road(Train(Wheel(400)), Pace((60, 1)), Habit.missing(50, 3))
        good = Road(Train(), Pace((1, 1)), Habit.steady(1))
        self.fails(TooMany("ticks", 600), above_growth, late)
        for pair in ((late, good), (good, late)):
            for asked in (never_wider, from_on, order):
                self.fails(TooMany("ticks", 600), asked, *pair)
            narrow = Narrow((above_growth(good),) * 2, (below_growth(good),) * 2)
            self.fails(TooMany("ticks", 600), shows_never_wider, *pair, narrow)
            self.fails(TooMany("ticks", 600), shows_never_wider, *pair, Narrow(None, None))
            told = never_wider(good.changed(looks=Habit.steady(2)), good)
            self.assertIs(shows_never_wider(*pair, told), False)
        one = Road(Train(Wheel(59)), Pace((1, 1)), Habit.steady(1))
        inexact = [Road(Train(Slips(of)), Pace((1, 1)), Habit.steady(1)) for of in (53, 59, 47)]
        self.assertEqual([len(below_growth(road).gains) for road in inexact], [53, 59, 47])
        self.assertEqual(order(inexact[0], inexact[2]), "better")
        both = inexact[0].changed(train=Train(Slips(53), Slips(47)))
        with self.assertRaises(TooMany):
            below_growth(both) - below_growth(inexact[1])
        for asked in (never_wider, from_on, order):
            self.fails(TooMany("values", 5000), asked, both, inexact[1])
            self.fails(TooMany("values", 5000), asked, inexact[1], both)
        pairs = (above_growth(both), above_growth(inexact[1])), (below_growth(both), below_growth(inexact[1]))
        self.fails(TooMany("values", 5000), shows_never_wider, both, inexact[1], Narrow(*pairs))
        self.assertTrue(never_wider(one, one))

    def test_errors_in_their_order(self):
        road = Road(Train(), Pace((1, 1)), Habit.steady(1))
        for wrong in OTHERS + [5, Train()]:
            for asked in (never_wider, from_on, order):
                self.fails(BadRoad("one"), asked, wrong, wrong)
                self.fails(BadRoad("other"), asked, road, wrong)
            self.fails(BadRoad("one"), shows_never_wider, wrong, wrong, wrong)
            self.fails(BadRoad("other"), shows_never_wider, road, wrong, wrong)
        self.assertTrue(never_wider(one=road, other=road))
        self.assertEqual((from_on(one=road, other=road), order(one=road, other=road)), (0, "alike"))

    def test_looks_at_narrow(self):
        one, other = (Road(Train(Wheel(5)), Pace((1, 1)), Habit.steady(looks)) for looks in (2, 4))
        one = one.changed(train=Train(Wheel(4)))
        told = never_wider(one, other)
        self.assertTrue(told)
        pairs = told.above, told.below
        for part in (0, 1):
            for value in OTHERS + [list(pairs[part]), pairs[part][::-1], pairs[part][:1], (*pairs[part], pairs[part][0]),
                                   pairs[1 - part], (pairs[part][0], None), (pairs[part][0], pairs[part][0])]:
                parts = [value if at == part else pair for at, pair in enumerate(pairs)]
                self.assertIs(shows_never_wider(one, other, Narrow(*parts)), False)
        for part, which in itertools.product((0, 1), (0, 1)):
            growth = pairs[part][which]
            for other_growth in (Growth((*growth.head[:-1], growth.head[-1] + 1), growth.gains), growth + Growth((0,), (0, 1)),
                                 growth + Growth((1, 0)), -growth):
                changed = tuple(other_growth if at == which else one_growth for at, one_growth in enumerate(pairs[part]))
                parts = [changed if at == part else pair for at, pair in enumerate(pairs)]
                self.assertIs(shows_never_wider(one, other, Narrow(*parts)), False)
        back = Narrow(pairs[0][::-1], pairs[1][::-1])
        self.assertIs(shows_never_wider(other, one, back), False)
        self.assertIs(shows_never_wider(one, other, told), True)
        self.assertIs(shows_never_wider(one, one, Narrow((pairs[0][0],) * 2, (pairs[1][0],) * 2)), True)
        for value in OTHERS + [5, pairs, SameWindows(*pairs)]:
            self.assertIs(shows_never_wider(one, other, value), False)

    def test_looks_at_wider(self):
        slow = Road(Train(Wheel(5)), Pace((1, 1)), Habit.steady(4))
        fast = slow.changed(looks=Habit.steady(3))
        told = never_wider(fast, slow)
        for length in range(1, 9):
            for side, gap, made in (("above", above, case_above), ("below", below, case_below)):
                wider = Wider(side, length, made(fast, length), paper_at_most(slow, side, length))
                # Any length does, not the least one alone.
                self.assertIs(shows_never_wider(fast, slow, wider), gap(slow, length).less(gap(fast, length)))
        case, paper = told.case, told.paper
        for part, values in {"side": OTHERS + ["below", 1], "length": OTHERS + [3, 5, 4.0, Ratio(4), -4],
                             "case": OTHERS + [case_above(fast, 3), case_below(fast, 4), case_above(slow, 4), 5,
                                               RoadCase("below", *[getattr(case, name) for name in ("window", "behind", "looks",
                                                                                                      "points", "beginnings")])],
                             "paper": OTHERS + [paper_at_most(slow, "below", 4), paper_at_most(slow, "above", 3), 5,
                                                paper_at_most(fast, "above", 4), AtMost("above", 4, (0, 0), Ratio(6), paper.covers),
                                                AtMost("above", 4, (0, 0), Ratio(4), paper.covers),
                                                AtMost("above", True, (0, 0), Ratio(5), paper.covers),
                                                AtMost("above", 4, (0, False), Ratio(5), paper.covers)]}.items():
            for value in values:
                parts = {"side": "above", "length": 4, "case": case, "paper": paper, part: value}
                self.assertIs(shows_never_wider(fast, slow, Wider(**parts)), False, (part, value))
        near = AtMost("above", 4, (0, 0), Ratio(11, 2), paper.covers)
        self.assertIs(shows_never_wider(fast, slow, Wider("above", 4, case, near)), True)
        behind = Wider("above", 4, case_above(fast, 4, (1, 1)), paper)
        self.assertIs(shows_never_wider(fast, slow, behind), False)
        behind = Wider("above", 4, case, paper_at_most(slow, "above", 4, (1, 1)))
        self.assertIs(shows_never_wider(fast, slow, behind), False)
        self.assertIs(shows_never_wider(slow, fast, told), False)
        longer = Wider("above", 4, case_above(fast, 5), paper)
        self.assertTrue(paper.number.less(above(fast, 5)))
        self.assertIs(shows_never_wider(fast, slow, longer), False)
        big = slow.changed(train=Train(Wheel(50)))
        self.assertIs(shows_never_wider(big, slow, Wider("above", 4, case_above(big, 4), paper)), True)
        self.assertIs(shows_never_wider(big, slow, Wider("above", 4, case_above(big, 4), paper_always(slow, "above"))), False)
        lossy, plain = (slow.changed(train=train) for train in (Train(Slips(2)), Train()))
        # A case below is none above, however wide its gap is.
        wider = Wider("above", 9, case_below(lossy, 9), paper_at_most(plain, "above", 9))
        self.assertIs(shows_never_wider(lossy, plain, wider), False)
        self.assertIs(shows_never_wider(lossy, plain, Wider("below", 9, case_below(lossy, 9), paper_at_most(plain, "below", 9))), True)
        equal = Wider("below", 9, case_below(lossy, 9), paper_at_most(lossy, "below", 9))
        self.assertTrue(weigh(lossy, equal.case)[0] != 0)
        self.assertIs(shows_never_wider(lossy, lossy, equal), False)

    def test_papers(self):
        for kind, parts, truth in [(Narrow, ["above", "below"], True), (Wider, ["side", "length", "case", "paper"], False),
                                   (SameWindows, ["lows", "highs"], True), (OtherWindow, ["amount", "counts", "beginnings"], False)]:
            values = [[k] for k in range(len(parts))]
            paper = kind(**dict(zip(parts, values)))
            for part, value in zip(parts, values):
                self.assertIs(getattr(paper, part), value)
            self.assertIs(bool(paper), truth)
            self.assertIsInstance(paper, Verdict)
            self.assertTrue(paper == kind(*[[k] for k in range(len(parts))]))
            for at in range(len(parts)):
                self.assertFalse(paper == kind(*[None if k == at else values[k] for k in range(len(parts))]))
            for other in (Narrow([0], [1]), SameWindows([0], [1]), None, values):
                self.assertIs(paper == other, type(other) is kind)


FINE = [Train(), Train(Wheel(3)), Train(Wheel(1, 2)), Train(Wheel(1, 2, 3)), Train(Wheel(3, 2, 1)), Train(Wheel(2), Divider(2)),
        Train(Wheel(4)), Train(Slips(2)), Train(Wheel(1, 2), Slips(3, lost=2)), Train(Wheel(2, 3), Gear(2, 3)),
        Train(Wheel(4, 6)), Train(Wheel(5)), Train(Wheel(1, 1, 2, 2)), Train(Wheel(1, 2, 1, 2)), Train(Gear(1, 1))]


class TestWindows(Case):
    def test_beside_all_counts(self):
        for one, other in itertools.product(FINE, FINE):
            told = alike_windows(one, other)
            unlike = [d for d in range(120) if (one.least(d), one.most(d)) != (other.least(d), other.most(d))]
            self.assertIs(bool(told), unlike == [])
            self.assertIs(shows_alike_windows(one, other, told), True)
            if told:
                self.assertTrue(told == SameWindows(one.least_growth, one.most_growth))
                self.assertTrue(told == SameWindows(other.least_growth, other.most_growth))
                continue
            d = unlike[0]
            if one.least(d) != other.least(d):
                train, counts = min([(one, one.least(d)), (other, other.least(d))], key=lambda pair: pair[1])
            else:
                train, counts = max([(one, one.most(d)), (other, other.most(d))], key=lambda pair: pair[1])
            self.alike((told.amount, told.counts), (d, counts))
            self.assertEqual(Shaft(train, *told.beginnings).move(d), counts)
            if d < 9:
                self.assertTrue((counts in all_counts(one, d)) != (counts in all_counts(other, d)))
            self.assertIs(shows_alike_windows(other, one, told), True)

    def test_looks(self):
        one, other = Train(Wheel(5)), Train(Wheel(4, 6))
        for amount, counts, beginnings in itertools.product(range(7), range(-1, 4), [(b,) for b in range(10)]):
            wanted = False
            for train, alone in ((one, other), (other, one)):
                if beginnings[0] < train.parts[0].turn and Shaft(train, *beginnings).move(amount) == counts:
                    wanted = wanted or counts not in all_counts(alone, amount)
            value = OtherWindow(amount, counts, beginnings)
            self.assertIs(shows_alike_windows(one, other, value), wanted, (amount, counts, beginnings))
        for part, values in {"amount": OTHERS + [-1, 5.0, Ratio(5), 10 ** 30 + 1], "counts": OTHERS + [0.0, False, Ratio(0), 1],
                             "beginnings": OTHERS + [[4], (4, 0), (10,), 4, (True,)]}.items():
            for value in values:
                parts = {"amount": 5, "counts": 0, "beginnings": (4,), part: value}
                self.assertIs(shows_alike_windows(one, other, OtherWindow(**parts)), False, (part, value))
        far = OtherWindow(10 ** 30, 2 * 10 ** 29, (0,))
        self.assertIs(shows_alike_windows(one, Train(Wheel(4)), far), True)
        self.assertIs(shows_alike_windows(one, other, far), False)
        over = OtherWindow(10 ** 30 + 1, 2 * 10 ** 29, (0,))
        self.assertIs(shows_alike_windows(one, Train(Wheel(4)), over), False)
        self.assertIs(shows_alike_windows(one, Train(Wheel(4)), OtherWindow(-1, -1, (0,))), False)
        same_growths = SameWindows(one.least_growth, one.most_growth)
        self.assertIs(shows_alike_windows(one, one, same_growths), True)
        self.assertIs(shows_alike_windows(one, other, same_growths), False)
        self.assertIs(shows_alike_windows(other, one, same_growths), False)
        for wrong in OTHERS + [one.most_growth, str(one.least_growth)]:
            self.assertIs(shows_alike_windows(one, one, SameWindows(wrong, one.most_growth)), False)
            if not isinstance(wrong, Growth):
                self.assertIs(shows_alike_windows(one, one, SameWindows(one.least_growth, wrong)), False)
        for near in (Growth((1, 0)), Growth((0,), (0, 0, 0, 0, 1))):
            self.assertIs(shows_alike_windows(one, one, SameWindows(one.least_growth + near, one.most_growth)), False)
            self.assertIs(shows_alike_windows(one, one, SameWindows(one.least_growth, one.most_growth - near)), False)
        for value in OTHERS + [5, Narrow(one.least_growth, one.most_growth)]:
            self.assertIs(shows_alike_windows(one, other, value), False)

    def test_errors_in_their_order(self):
        rough, one = Train(Gear(3, 2)), Train(Wheel(5))
        for asked in (alike_windows, lambda left, right: shows_alike_windows(left, right, None)):
            for wrong in OTHERS + [5]:
                self.fails(BadTrain("one"), asked, wrong, wrong)
                self.fails(BadTrain("other"), asked, rough, wrong)
            self.fails(Unlike("one"), asked, rough, rough)
            self.fails(Unlike("other"), asked, one, rough)
        long = Train(Slips(53), Slips(47), Slips(43))
        for pair in ((long, one), (one, long)):
            self.fails(TooMany("values", 5000), alike_windows, *pair)
            self.fails(TooMany("values", 5000), shows_alike_windows, *pair, SameWindows(None, None))
            self.assertIs(shows_alike_windows(*pair, OtherWindow(1, 1, (0,))), False)
        self.fails(TooMany("values", 5000), alike_windows, Train(Slips(53), Slips(47)), Train(Slips(59)))
        self.assertTrue(alike_windows(one=one, other=Train(Wheel(5, 5))))


if __name__ == "__main__":
    unittest.main()
