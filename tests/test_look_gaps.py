"""A look at cases and papers of gaps."""

import itertools
import random
import unittest
from fractions import Fraction

from gaugeroad.cases import Case as RoadCase
from gaugeroad.cases import case_above, case_below
from gaugeroad.errors import BadBeginning, BadCase, BadHistory, BadRoad, TooMany
from gaugeroad.gaps import above, below
from gaugeroad.habits import Habit
from gaugeroad.histories import Through, barring
from gaugeroad.lags import spans
from gaugeroad.look_gaps import shows_at_most, shows_case, weigh
from gaugeroad.marks import Marks
from gaugeroad.paces import Pace
from gaugeroad.papers import Always, AtMost, paper_always, paper_at_most
from gaugeroad.parts import Divider, Gear, Slips, Wheel
from gaugeroad.ratios import Ratio
from gaugeroad.roads import Road
from gaugeroad.shafts import Shaft
from gaugeroad.trains import Train
from helpers import OTHERS, Case
from test_cases import some_road
from test_gaps import fraction

FAR = 10 ** 30
PARTS = ("side", "window", "behind", "looks", "points", "beginnings")


def weighed(road, case):
    """What is told and true in a right case, tick by tick."""
    history = Through(road.pace, *case.points)
    shaft = Shaft(road.whole, *case.beginnings)
    counts = sum(shaft.move(history[t]) for t in range(case.looks[0], case.looks[-2]))
    return road.whole.worth * counts, Ratio(sum(history[t] for t in range(*case.window)))


def with_part(case, part, value):
    """The case with one part otherwise."""
    told = [value if name == part else getattr(case, name) for name in PARTS]
    return RoadCase(*told)


class TestWeigh(Case):
    def test_cases_of_the_gaps(self):
        for seed in range(60):
            road = some_road(random.Random(seed))
            for length, late, after in itertools.product((1, 2, 5, 8), (0, 1, 4), (0, 2, 7)):
                if after > length + late:
                    continue
                for made, gap in ((case_above, above), (case_below, below)):
                    case = made(road, length, (late, after))
                    told, truth = weigh(road, case)
                    self.assertTrue(isinstance(told, Ratio) and isinstance(truth, Ratio))
                    self.assertTrue((told, truth) == weighed(road, case))
                    number = gap(road, length, (late, after))
                    self.assertIs(shows_case(road, case, number), True)
                    self.assertIs(shows_case(road, case, number + Ratio(1, road.scale)), False)
                    other = with_part(case, "side", "below" if case.side == "above" else "above")
                    self.assertIs(shows_case(road, other, number), number == 0)
                    self.assertIs(shows_case(road, other, -number), True)

    def test_any_cases(self):
        road = Road(Train(Wheel(1, 2), Slips(3)), Pace((1, 2), (3, 4)), Habit.missing(2, 1), zoom=Gear(3, 2))
        dice = random.Random(1)
        for _ in range(300):
            looks = [dice.randint(-9, 9)]
            for _ in range(dice.randint(1, 5)):
                looks.append(looks[-1] + dice.choice((2, 4)))
            behind = (dice.randint(0, 6), dice.randint(0, 6))
            a = dice.randrange(looks[0], looks[1]) + behind[0]
            b = dice.randrange(looks[-2], looks[-1]) + behind[1]
            points = [(dice.randint(-9, 5), dice.randint(-5, 5))]
            for _ in range(dice.randint(0, 3)):
                moment = points[-1][0] + dice.randint(1, 5)
                most = road.pace.top(moment - points[-1][0])
                points.append((moment, points[-1][1] + dice.randint(0, most)))
            beginnings = (dice.randrange(3), Marks(3, *dice.sample(range(3), dice.randint(0, 1))), dice.randrange(2))
            case = RoadCase(dice.choice(("above", "below")), (a, b), behind, tuple(looks), tuple(points), beginnings)
            if barring(road.pace, *points) is not None:
                points = points[:1]
                case = with_part(case, "points", tuple(points))
            if a > b:
                self.fails(BadCase("window"), weigh, road, case)
            elif behind[1] > b - a + behind[0]:
                self.fails(BadCase("behind"), weigh, road, case)
            else:
                self.assertTrue(weigh(road, case) == weighed(road, case))

    def test_far_out(self):
        road = Road(Train(Wheel(5)), Pace((1, 10 ** 6)), Habit.steady(3))
        end = 10 ** 29
        points = ((-FAR, -(10 ** 36)), (0, 0), (FAR, 10 ** 36))
        case = RoadCase("above", (end, end), (0, 0), (end, end + 3), points, (0, 0))
        self.assertTrue(weigh(road, case) == (Ratio(0), Ratio(0)))
        case = RoadCase("below", (end - 3, end), (1000, 1000), (end - 1003, end - 1000, end - 997), points, (0, 0))
        self.assertTrue(weigh(road, case) == (Ratio(3 * 10 ** 6), Ratio(3 * 10 ** 6)))
        # More than a shaft takes at once can come between the looks of a case.
        wide = Road(Train(), Pace((1, 10 ** 6)), Habit.steady(200 // 4))
        looks = (-(10 ** 30), -(10 ** 30) + 50)
        self.fails(BadCase("looks"), weigh, wide, RoadCase("above", (0, 0), (0, 0), looks, ((0, 0),), (0,)))

    def test_wrong_parts(self):
        road = Road(Train(Wheel(5), Slips(3)), Pace((1, 3), (4, 6)), Habit.missing(3, 1))
        right = case_above(road, 5, (1, 2))
        a, b = right.window
        looks, points, beginnings = right.looks, right.points, right.beginnings
        self.assertTrue(shows_case(road, right, above(road, 5, (1, 2))))
        wrong = {
            "side": OTHERS + ["Above", "abov", 1],
            "window": OTHERS + [(b, a), [a, b], (a, b, b), (a,), (a, True), (a, 10 ** 29 + 1), (-(10 ** 29) - 1, b), (a, None)],
            "behind": OTHERS + [[1, 2], (1, 2, 3), (1001, 0), (0, 1001), (-1, 0), (1, True), (0, 6), (1, 7)],
            "looks": OTHERS + [list(looks), looks[:1], looks[1:], looks[:-1], (*looks, looks[-1] + 3), looks[::-1],
                               (looks[0] - 1, *looks[1:]), tuple(look + 3 for look in looks), (0, 3, 3), (False, *looks[1:]),
                               (looks[0] - 3, *looks), (0, 12), tuple(look + FAR for look in looks)],
            "points": OTHERS + [list(points), (*points, points[-1]), ((0, 0), (1, 4)), ((0, 0), (1, -1)), ((0, True),),
                                ((10 ** 30 + 1, 0),), tuple((k, 0) for k in range(13)), ([0, 0],)],
            "beginnings": OTHERS + [list(beginnings), beginnings[:1], (*beginnings, 0), (5, Marks(1), 0), (-1, Marks(1), 0),
                                    (0, 0, 0), (0, Marks(2, 0), 0), (0, Marks(1), 1)],
        }
        for part, values in wrong.items():
            for value in values:
                case = with_part(right, part, value)
                self.fails(BadCase(part), weigh, road, case)
                self.assertIs(shows_case(road, case, above(road, 5, (1, 2))), False)
        # Of several wrong parts the first one is told.
        for first in range(6):
            told = [getattr(right, name) for name in PARTS[:first]] + [5] * (6 - first)
            self.fails(BadCase(PARTS[first]), weigh, road, RoadCase(*told))
        for value in OTHERS + [5, (1, 2), road, paper_at_most(road, "above", 5)]:
            self.fails(BadCase("case"), weigh, road, value)
            self.assertIs(shows_case(road, value, Ratio(0)), False)
            self.fails(BadRoad("road"), weigh, value if not isinstance(value, Road) else 5, right)
            self.fails(BadRoad("road"), shows_case, 5, value, value)

    def test_looks_just_beside_the_window(self):
        road = Road(Train(Wheel(5)), Pace((1, 3)), Habit.steady(3))
        for a, b, looks, wanted in [(3, 8, (3, 6, 9), True), (3, 8, (0, 3, 6, 9), False), (5, 8, (3, 6, 9), True),
                                    (6, 8, (3, 6, 9), False), (2, 8, (3, 6, 9), False), (3, 9, (3, 6, 9), False),
                                    (3, 9, (3, 6, 9, 12), True), (3, 6, (3, 6, 9), True), (3, 5, (3, 6, 9), False)]:
            case = RoadCase("above", (a, b), (0, 0), looks, ((0, 0),), (0, 0))
            self.assertIs(shows_case(road, case, Ratio(0)), wanted, (a, b, looks))
            behind = RoadCase("above", (a + 2, b + 4), (2, 4), looks, ((0, 0),), (0, 0))
            self.assertIs(shows_case(road, behind, Ratio(0)), wanted, (a, b, looks))

    def test_causes(self):
        road = Road(Train(Wheel(5)), Pace((1, 3)), Habit.steady(3))
        right = case_below(road, 5)
        causes = [("points", (), BadHistory("points")), ("points", ((0, 0), (1, 4)), BadHistory((0, 1))),
                  ("points", ((0, 0), 5), BadHistory(1)), ("points", tuple((k, 0) for k in range(13)), TooMany("points", 12)),
                  ("beginnings", (), BadBeginning(0)), ("beginnings", (0, 1), BadBeginning(1)),
                  ("beginnings", (0, 0, 0), BadBeginning(2)), ("beginnings", (5, 0), BadBeginning(0)),
                  ("beginnings", ("x", 0), BadBeginning(0))]
        for part, value, cause in causes:
            with self.assertRaises(BadCase) as caught:
                weigh(road, with_part(right, part, value))
            found = caught.exception.__cause__
            self.assertEqual((type(found), vars(found)), (type(cause), vars(cause)))
        with self.assertRaises(BadCase) as caught:
            weigh(road, with_part(right, "points", [(0, 0)]))
        self.assertIsNone(caught.exception.__cause__)

    def test_numbers_are_ratios(self):
        road = Road(Train(Wheel(5)), Pace((1, 3), (4, 6)), Habit.steady(3))
        case = case_below(road, 5)
        self.assertIs(shows_case(road, case, Ratio(9)), True)
        for other in OTHERS + [9, "9", Ratio(8), Ratio(-9), Ratio(19, 2), (Ratio(9),)]:
            self.assertIs(shows_case(road, case, other), False)
        empty = RoadCase("above", (3, 3), (0, 0), (3, 6), ((0, 0),), (0, 0))
        self.assertIs(shows_case(road, empty, Ratio(0)), True)
        for other in (0, False, None):
            self.assertIs(shows_case(road, empty, other), False)


def sum_of(pace, cover):
    return sum(many * most for many, (_, most) in zip(cover, pace.rules))


def lets(road, side, pair):
    """What a pair of covers lets, by the words of the document."""
    early, last = (sum_of(road.pace, cover) for cover in pair)
    worth, whole = fraction(road.whole.worth), road.whole
    if side == "above":
        return max(worth * whole.most(d) - d + min(early, d) for d in range(last + 1))
    return max(d - worth * whole.least(d) + min(early, last - d) for d in range(last + 1))


def some_cover(dice, pace, ticks, more):
    """A cover of so many ticks, perhaps with more than it needs."""
    cover = [0] * len(pace.rules)
    while sum(many * rule[0] for many, rule in zip(cover, pace.rules)) < ticks:
        cover[dice.randrange(len(cover))] += 1
    if dice.random() < more:
        cover[dice.randrange(len(cover))] += 1
    return tuple(cover)


def ratio(number):
    return Ratio(number.numerator, number.denominator)


class TestPapers(Case):
    def test_papers_of_the_gaps(self):
        for seed in range(40):
            road = some_road(random.Random(seed))
            for length, late, after in itertools.product((0, 1, 2, 5, 9), (0, 3), (0, 2)):
                if after > length + late:
                    continue
                for side in ("above", "below"):
                    paper = paper_at_most(road, side, length, (late, after))
                    self.check(road, paper)
            for side in ("above", "below"):
                if side == "above" or road.train.is_exact:
                    self.check(road, paper_always(road, side))

    def check(self, road, paper):
        self.assertIs(shows_at_most(road, paper), True)
        parts = list(vars(paper).values())
        at = 3 if isinstance(paper, AtMost) else 1
        for step, wanted in ((1, True), (1000, True), (-1, False)):
            parts[at] = paper.number + Ratio(step, road.scale)
            self.assertIs(shows_at_most(road, type(paper)(*parts)), wanted)
        for other in OTHERS + [5, paper.number.floor, str(paper.number)]:
            parts[at] = other
            self.assertIs(shows_at_most(road, type(paper)(*parts)), False)

    def test_any_covers(self):
        for seed in range(60):
            dice = random.Random(seed)
            road = some_road(dice)
            hole, pace = road.habit.hole, road.pace
            length, late = dice.randint(0, 9), dice.randint(0, 3)
            after = dice.randint(0, min(3, length + late))
            told = spans(road.habit, length + late - after)
            covers = tuple((some_cover(dice, pace, lag + late, 0.3), some_cover(dice, pace, told[lag], 0.3))
                           for lag in range(hole))
            numbers = [lets(road, "above", pair) for pair, span in zip(covers, told) if span > 0]
            self.around(road, "above", length, (late, after), max([Fraction(0), *numbers]), covers)
            longest = min(length, hole - 1 + after)
            pair = some_cover(dice, pace, longest, 0.5), some_cover(dice, pace, length, 0.3)
            self.around(road, "below", length, (late, after), lets(road, "below", pair), pair)

    def around(self, road, side, length, behind, number, covers):
        for step, wanted in ((Fraction(0), True), (Fraction(1, 10 ** 9), True), (Fraction(-1, 10 ** 9), False)):
            paper = AtMost(side, length, behind, ratio(number + step), covers)
            self.assertIs(shows_at_most(road, paper), wanted, (side, length, behind, number, covers))

    def test_covers_that_do_not_cover(self):
        road = Road(Train(Wheel(5)), Pace((1, 3), (4, 6)), Habit.missing(3, 1))
        far = Ratio(10 ** 12)
        right = paper_at_most(road, "above", 5)
        self.assertTrue(shows_at_most(road, AtMost("above", 5, (0, 0), far, right.covers)))
        for lag in range(6):
            for which in (0, 1):
                cover = right.covers[lag][which]
                for at in range(2):
                    for value in (cover[at] - 1, None, True, 10 ** 30 + 1, Ratio(cover[at]), 10 ** 30):
                        changed = tuple(value if k == at else many for k, many in enumerate(cover))
                        pair = (changed, right.covers[lag][1]) if which == 0 else (right.covers[lag][0], changed)
                        covers = (*right.covers[:lag], pair, *right.covers[lag + 1:])
                        ticks = (lag, spans(road.habit, 5)[lag])[which]
                        fits = type(value) is int and 0 <= value <= 10 ** 30
                        fits = fits and changed[0] + 4 * changed[1] >= ticks
                        # So much more allows a gap that passes the number.
                        wanted = fits and value != 10 ** 30
                        found = shows_at_most(road, AtMost("above", 5, (0, 0), far, covers))
                        if value == 10 ** 30:
                            # Without a look in the window, or ahead of it with little behind, the number stays small.
                            self.assertIn(found, (True, False))
                        else:
                            self.assertIs(found, wanted, (lag, which, value))
        covers = right.covers
        for wrong in OTHERS + [list(covers), covers[:-1], (*covers, covers[0]), tuple(map(list, covers)), covers[0],
                               tuple(pair[:1] for pair in covers), tuple((*pair, pair[0]) for pair in covers),
                               tuple((list(one), other) for one, other in covers),
                               tuple(((*one, 0), other) for one, other in covers)]:
            self.assertIs(shows_at_most(road, AtMost("above", 5, (0, 0), far, wrong)), False)
        below_covers = paper_at_most(road, "below", 5).covers
        for wrong in OTHERS + [list(below_covers), (below_covers,), below_covers[:1], ((0, 0), below_covers[1]),
                               (below_covers[0], (0, 1)), (below_covers[0], (0, 1, 1)), (below_covers[0], [1, 1])]:
            self.assertIs(shows_at_most(road, AtMost("below", 5, (0, 0), far, wrong)), False)
        always = paper_always(road, "above")
        for wrong in OTHERS + [list(always.cover), (0, 1), (4, 0), (True, 1), (1, -1), (1, 1, 0), (10 ** 30 + 1, 0)]:
            self.assertIs(shows_at_most(road, Always("above", far, wrong)), False)
            self.assertIs(shows_at_most(road, Always("below", far, wrong)), False)
        for right_cover in ((1, 1), (5, 0), (0, 2)):
            for side in ("above", "below"):
                self.assertIs(shows_at_most(road, Always(side, far, right_cover)), True)
                plain = 3 * right_cover[0] + 6 * right_cover[1] + 4
                self.assertIs(shows_at_most(road, Always(side, Ratio(plain), right_cover)), True)
                self.assertIs(shows_at_most(road, Always(side, Ratio(plain) - Ratio(1, 9), right_cover)), False)

    def test_covers_of_what_lies_behind(self):
        road = Road(Train(Wheel(5)), Pace((1, 1)), Habit.steady(2))
        for late in (0, 1, 5):
            told = spans(road.habit, 4 + late)
            right = tuple(((lag + late,), (told[lag],)) for lag in range(2))
            self.assertIs(shows_at_most(road, AtMost("above", 4, (late, 0), Ratio(99), right)), True)
            for lag in (0, 1):
                for pair in (((lag + late - 1,), (told[lag],)), ((lag + late,), (told[lag] - 1,))):
                    covers = tuple(pair if at == lag else one for at, one in enumerate(right))
                    self.assertIs(shows_at_most(road, AtMost("above", 4, (late, 0), Ratio(99), covers)), False)
        for behind in ((1, 0), (2, 0), (2, 1)):
            for side, covers in (("above", (((9,), (9,)),) * 2), ("below", ((9,), (9,)))):
                self.assertIs(shows_at_most(road, AtMost(side, 0, behind, Ratio(99), covers)), True)
                self.assertIs(shows_at_most(road, AtMost(side, -1, behind, Ratio(99), covers)), False)
        for many, wanted in ((10 ** 30, True), (10 ** 30 + 1, False)):
            for side in ("above", "below"):
                self.assertIs(shows_at_most(road, Always(side, Ratio(10 ** 31), (many,))), wanted)

    def test_a_lag_without_a_look_counts_as_nothing(self):
        road = Road(Train(Wheel(5)), Pace((1, 1)), Habit.steady(9))
        told = spans(road.habit, 2)
        self.assertEqual(told, (0,) * 7 + (9, 9))
        covers = tuple(((lag + 50,), (50,)) if lag < 7 else road_pair(road, lag, told[lag]) for lag in range(9))
        number = above(road, 2)
        self.assertIs(shows_at_most(road, AtMost("above", 2, (0, 0), number, covers)), True)
        short = (((0,), (50,)), *covers[1:])
        self.assertIs(shows_at_most(road, AtMost("above", 2, (0, 0), number, short)), True)
        short = (covers[0], ((0,), (50,)), *covers[2:])
        self.assertIs(shows_at_most(road, AtMost("above", 2, (0, 0), number, short)), False)

    def test_other_parts_of_papers(self):
        road = Road(Train(Wheel(5)), Pace((1, 3), (4, 6)), Habit.steady(3))
        for side in ("above", "below"):
            right = paper_at_most(road, side, 4, (1, 2))
            far, covers = Ratio(10 ** 9), right.covers
            for wrong in OTHERS + ["Above", 1]:
                self.assertIs(shows_at_most(road, AtMost(wrong, 4, (1, 2), far, covers)), False)
                self.assertIs(shows_at_most(road, Always(wrong, far, (0, 1))), False)
            for wrong in OTHERS + [-1, 10 ** 30 + 1, Ratio(4), 4.0, 598]:
                self.assertIs(shows_at_most(road, AtMost(side, wrong, (1, 2), far, covers)), False)
            for wrong in OTHERS + [[1, 2], (1, True), (1, 2, 3), (-1, 0), (0, 5), (1001, 0), (598, 0), (1, -1)]:
                self.assertIs(shows_at_most(road, AtMost(side, 4, wrong, far, covers)), False)
        for value in OTHERS + [5, road, case_above(road, 3)]:
            self.assertIs(shows_at_most(road, value), False)
            self.fails(BadRoad("road"), shows_at_most, 5, value)

    def test_at_most_so_many_ticks(self):
        road = Road(Train(Wheel(5)), Pace((1, 1)), Habit.steady(1))
        for side in ("above", "below"):
            far = Ratio(10 ** 9)
            big = ((10 ** 6,), (10 ** 6,))
            covers = (big,) if side == "above" else big
            for length, behind in ((600, (0, 0)), (300, (200, 100)), (0, (300, 300))):
                self.assertIs(shows_at_most(road, AtMost(side, length, behind, far, covers)), True)
            for length, behind in ((601, (0, 0)), (300, (200, 101)), (0, (301, 300)), (10 ** 30, (0, 0))):
                self.assertIs(shows_at_most(road, AtMost(side, length, behind, far, covers)), False)
        inexact = Road(Train(Wheel(5), Slips(3)), Pace((1, 1)), Habit.steady(3))
        self.assertIs(shows_at_most(inexact, Always("below", Ratio(10 ** 30), (2,))), False)
        self.assertIs(shows_at_most(inexact, Always("above", Ratio(10 ** 30), (2,))), True)
        self.assertIs(shows_at_most(inexact, paper_at_most(inexact, "below", 9)), True)
        zoomed = Road(Train(Wheel(5)), Pace((1, 1)), Habit.steady(3), zoom=Divider(2))
        self.assertIs(shows_at_most(zoomed, paper_always(zoomed, "below")), True)


def road_pair(road, lag, span):
    return road.pace.covering(lag), road.pace.covering(span)


if __name__ == "__main__":
    unittest.main()
