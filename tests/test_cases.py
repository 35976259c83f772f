"""Cases that meet gaps, and papers that none passes them."""

import itertools
import random
import unittest

from gaugeroad.cases import Case as RoadCase
from gaugeroad.cases import case_above, case_below
from gaugeroad.errors import BadCase, BadNumber, BadRoad, Nothing, TooMany
from gaugeroad.gaps import above, below, plain_above, plain_below
from gaugeroad.habits import Habit
from gaugeroad.histories import Through
from gaugeroad.lags import spans
from gaugeroad.looks import Looks
from gaugeroad.losses import Losses
from gaugeroad.paces import Pace
from gaugeroad.papers import Always, AtMost, paper_always, paper_at_most
from gaugeroad.parts import Divider, Gear, Slips, Wheel
from gaugeroad.roads import Road
from gaugeroad.shafts import Shaft
from gaugeroad.trains import Train
from gaugeroad.verdicts import Verdict
from helpers import OTHERS, Case
from test_gaps import HABITS, PACES, TRAINS
from test_habits import some

FAR = 10 ** 30
SIDES = [("above", above, case_above), ("below", below, case_below)]
LONG = [Train(Wheel(9, 11, 10, 10), Divider(2)), Train(Wheel(3, 4), Slips(4), Gear(3, 5)), Train(Wheel(5), Slips(4))]


def some_road(dice):
    if dice.random() < 0.5:
        return Road(dice.choice(TRAINS), dice.choice(PACES), dice.choice(HABITS), zoom=dice.choice([None, Gear(3, 2)]))
    looks = dice.choice([some(dice.random(), states=3, length=7), Looks(3, 0, 1, losses=Losses.runs(2, 1), late=1)])
    return Road(dice.choice(LONG), Pace((1, 3), (4, 6), (7, dice.randint(7, 10))), looks)


class TestCases(Case):
    def weigh(self, road, case):
        """What a case tells less its truth, all its parts being looked at by the words of the document."""
        (a, b), (late, after), looks = case.window, case.behind, case.looks
        self.assertTrue(all(type(moment) is int for moment in (a, b, *looks)))
        self.assertTrue(type(looks) is tuple and type(case.points) is tuple and type(case.beginnings) is tuple)
        self.assertIn(tuple(y - x for x, y in zip(looks, looks[1:])), road.habit)
        self.assertTrue(looks[0] == 0 and len(looks) >= 2 and looks[0] <= a - late < looks[1])
        self.assertTrue(looks[-2] <= b - after < looks[-1])
        self.assertTrue(case.points[0] == (0, 0) and len(case.points) <= 4 and case.points[-1][0] <= b)
        history = Through(road.pace, *case.points)
        shaft = Shaft(road.whole, *case.beginnings)
        shaft.move(history(0))
        counts = shaft.move(history(looks[-2]) - history(0))
        return road.whole.worth * counts - history.grown(a, b)

    def test_cases_meet_the_gaps(self):
        for seed in range(150):
            dice = random.Random(seed)
            road = some_road(dice)
            for length, late, after in itertools.product((1, 2, 3, 5, 8), (0, 1, 4), (0, 2, 7)):
                if after > length + late:
                    continue
                for side, gap, made in SIDES:
                    case = made(road, length, (late, after))
                    self.assertEqual((case.side, case.behind), (side, (late, after)))
                    self.assertEqual(case.window[1] - case.window[0], length)
                    told = self.weigh(road, case)
                    self.assertTrue((told if side == "above" else -told) == gap(road, length, (late, after)))
                    self.assertEqual(case, made(road=road, length=length, behind=(late, after)))

    def test_long_windows(self):
        slow = Road(Train(Wheel(400), Gear(3, 2)), Pace((60, 1)), Habit.missing(50, 3))
        fast = Road(Train(Wheel(5), Slips(2)), Pace((1, 10 ** 6)), Looks(60, 0, late=59))
        for road in (slow, fast):
            for side, gap, made in SIDES:
                for length, behind in ((600, (0, 0)), (199, (0, 1)), (300, (300, 0)), (1, (300, 299)), (1, (299, 300))):
                    told = self.weigh(road, made(road, length, behind))
                    self.assertTrue((told if side == "above" else -told) == gap(road, length, behind))
                for length, behind in ((601, (0, 0)), (600, (0, 1)), (600, (1, 0)), (FAR, (0, 0)), (0, (1000, 1000))):
                    self.fails(TooMany("ticks", 600), made, road, length, behind)
                self.fails(Nothing(), made, road, 0)
                self.fails(Nothing(), made, road, 0, (300, 300))

    def test_without_a_pair_nothing_lies_behind(self):
        road = Road(Train(Wheel(5)), Pace((1, 3), (4, 6)), Habit.missing(3, 1))
        for made in (case_above, case_below):
            for length in (1, 4, 9):
                self.assertEqual(made(road, length), made(road, length, (0, 0)))
                self.assertEqual(made(road, length).behind, (0, 0))
        for side in ("above", "below"):
            self.assertEqual(paper_at_most(road, side, 4), paper_at_most(road, side, 4, (0, 0)))

    def test_one_look(self):
        road = Road(Train(Wheel(5)), Pace((1, 1)), Habit.steady(9))
        for made in (case_above, case_below):
            self.assertEqual(len(made(road, 5, (1, 6)).looks), 2)
        self.assertEqual(len(case_below(road, 5).looks), 2)

    def test_errors_in_their_order(self):
        road = Road(Train(Slips(2)), Pace((1, 1)), Habit.steady(3))
        for made in (case_above, case_below):
            for wrong in OTHERS + [5]:
                self.fails(BadRoad("road"), made, wrong, wrong, wrong)
            for wrong in OTHERS + [-1, FAR + 1]:
                self.fails(BadNumber(wrong), made, road, wrong, wrong)
            for wrong in OTHERS + [5, [0, 0], (0, 1001), (True, 0), (0, 0, 0)]:
                self.fails(BadNumber(wrong), made, road, 0, wrong)
            self.fails(BadNumber((0, 1)), made, road, 0, (0, 1))

    def test_papers(self):
        case = RoadCase(side=1, window=[2], behind=3, looks=None, points="p", beginnings={})
        self.alike([case.side, case.window, case.behind, case.looks, case.points, case.beginnings], [1, [2], 3, None, "p", {}])
        self.assertEqual(case, RoadCase(True, [2], 3, None, "p", {}))
        for at in range(6):
            parts = [1, [2], 3, None, "p", {}]
            parts[at] = "other"
            self.assertNotEqual(case, RoadCase(*parts))
        paper = AtMost(side=1, length=2, behind=3, number=4, covers=[5])
        self.alike([paper.side, paper.length, paper.behind, paper.number, paper.covers], [1, 2, 3, 4, [5]])
        self.assertEqual(paper, AtMost(1, 2, 3, 4, [5]))
        for at in range(5):
            parts = [1, 2, 3, 4, [5]]
            parts[at] = "other"
            self.assertNotEqual(paper, AtMost(*parts))
        always = Always(side=1, number=2, cover=())
        self.alike([always.side, always.number, always.cover], [1, 2, ()])
        self.assertEqual(always, Always(1, 2, ()))
        for other in (Always(0, 2, ()), Always(1, 3, ()), Always(1, 2, []), (1, 2, ()), None):
            self.assertNotEqual(always, other)
        self.assertTrue(all(bool(one) and not isinstance(one, Verdict) for one in (case, paper, always)))


class TestPapers(Case):
    def test_papers_of_gaps(self):
        for seed in range(80):
            dice = random.Random(seed)
            road = some_road(dice)
            pace, hole = road.pace, road.habit.hole
            for length, late, after in itertools.product((0, 1, 2, 5, 9), (0, 3), (0, 2)):
                if after > length + late:
                    continue
                behind = (late, after)
                paper = paper_at_most(road, "above", length, behind)
                told = spans(road.habit, length + late - after)
                wanted = tuple((pace.covering(lag + late), pace.covering(told[lag])) for lag in range(hole))
                self.assertTrue(paper.number == above(road, length, behind))
                self.alike((paper.side, paper.length, paper.behind, paper.covers), ("above", length, behind, wanted))
                paper = paper_at_most(road=road, side="below", length=length, behind=behind)
                wanted = (pace.covering(min(length, hole - 1 + after)), pace.covering(length))
                self.assertTrue(paper.number == below(road, length, behind))
                self.alike((paper.side, paper.length, paper.behind, paper.covers), ("below", length, behind, wanted))
            paper = paper_always(road, "above")
            self.assertTrue(paper.number == plain_above(road))
            self.alike((paper.side, paper.cover), ("above", pace.covering(hole - 1)))
            if road.train.is_exact:
                paper = paper_always(road=road, side="below")
                self.assertTrue(paper.number == plain_below(road))
                self.alike((paper.side, paper.cover), ("below", pace.covering(hole - 1)))
            else:
                self.fails(Nothing(), paper_always, road, "below")

    def test_papers_at_their_edges(self):
        slow = Road(Train(Wheel(400), Gear(3, 2)), Pace((60, 1), (1, 1)), Habit.missing(50, 3))
        self.assertEqual(len(paper_at_most(slow, "above", 600).covers), 200)
        self.assertEqual(paper_at_most(slow, "below", 300, (200, 100)).covers[1], slow.pace.covering(300))
        for side in ("above", "below"):
            self.alike(paper_at_most(slow, side, 0).behind, (0, 0))
            for length, behind in ((601, (0, 0)), (600, (0, 1)), (600, (1, 0)), (0, (301, 300)), (FAR, (0, 0))):
                self.fails(TooMany("ticks", 600), paper_at_most, slow, side, length, behind)

    def test_errors_in_their_order(self):
        road = Road(Train(Slips(2)), Pace((1, 1)), Habit.steady(3))
        for wrong in OTHERS + [5]:
            self.fails(BadRoad("road"), paper_at_most, wrong, wrong, wrong, wrong)
            self.fails(BadRoad("road"), paper_always, wrong, wrong)
            self.fails(BadCase("side"), paper_at_most, road, wrong, wrong, wrong)
            self.fails(BadCase("side"), paper_always, road, wrong)
        for wrong in OTHERS + [-1, FAR + 1]:
            self.fails(BadNumber(wrong), paper_at_most, road, "above", wrong, wrong)
        for wrong in OTHERS + [5, [0, 0], (0, 1001), (True, 0)]:
            self.fails(BadNumber(wrong), paper_at_most, road, "below", FAR, wrong)


if __name__ == "__main__":
    unittest.main()
