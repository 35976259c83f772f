"""The gaps of roads."""

import itertools
import random
import unittest
from fractions import Fraction
from functools import lru_cache

from gaugeroad.errors import BadCase, BadNumber, BadRoad, Forgotten, Nothing, NotYet, TooMany
from gaugeroad.gaps import above, above_growth, aged, below, below_growth, plain_above, plain_below, plain_from
from gaugeroad.growths import Growth
from gaugeroad.habits import Habit
from gaugeroad.looks import Looks
from gaugeroad.losses import Losses
from gaugeroad.paces import Pace
from gaugeroad.parts import Divider, Gear, Slips, Wheel
from gaugeroad.peaks import peak_above, peak_below
from gaugeroad.ratios import Ratio
from gaugeroad.roads import Road
from gaugeroad.tiers import Tiers
from gaugeroad.trains import Train
from helpers import OTHERS, Case, same
from test_habits import some
from test_lags import sums, walks_from
from test_paces import all_rows
from test_trains import all_counts

FAR = 10 ** 30
TRAINS = [Train(), Train(Wheel(3)), Train(Wheel(1, 2)), Train(Wheel(2), Divider(2)), Train(Slips(2)), Train(Gear(3, 2)),
          Train(Wheel(1, 2), Slips(3, lost=2)), Train(Wheel(2, 3), Gear(2, 3))]
PACES = [Pace((1, 1)), Pace((1, 2)), Pace((1, 2), (2, 3)), Pace((2, 1)), Pace((1, 2), (3, 2))]
HABITS = [Habit.steady(1), Habit.steady(2), Habit.steady(3), Habit.missing(1, 1), Habit.loose(2, 1)]


def fraction(ratio):
    return Fraction(ratio.up, ratio.down)


@lru_cache(maxsize=None)
def rows_of(rules, ticks):
    return all_rows(Pace(*rules), ticks, 2)


def windows(habit, ticks):
    """Each pair of a lag and of the ticks between the looks at which moments so many ticks apart are read."""
    found = set()
    for state in range(len(habit)):
        for row in walks_from(habit, state, habit.hole - 1 + ticks):
            for lag in range(row[0]):
                found.add((lag, max(look for look in sums(row) if look <= lag + ticks)))
    return found


def widest(road, length, behind):
    """The gaps above and below, over all histories, beginnings and walks, gone through whole."""
    worth, told = fraction(road.whole.worth), set()
    for lag, span in windows(road.habit, length + behind[0] - behind[1]):
        begin = lag + behind[0]
        for row in rows_of(road.pace.rules, begin + length):
            told.add((sum(row[:span]), sum(row[begin:])))
    numbers = [worth * counts - truth for amount, truth in told for counts in counts_of(road.whole, amount)]
    return max(numbers), -min(numbers)


def counts_of(train, amount):
    key = (str(train), amount)
    if key not in KNOWN:
        KNOWN[key] = all_counts(train, amount)
    return KNOWN[key]


KNOWN = {}


def by_words(road, length, behind):
    """The gap above by the words of the statement, for lengths that cannot be gone through whole."""
    pace, whole = road.pace, road.whole
    ticks = length + behind[0] - behind[1]
    numbers = [Fraction(0)]
    for lag, span in (windows(road.habit, ticks) if ticks > 0 else ()):
        early, last = pace.top(lag + behind[0]), pace.top(span)
        numbers += [fraction(whole.worth) * whole.most(d) - d + min(early, d) for d in range(last + 1)]
    return max(numbers)


def below_by_words(road, length, behind):
    pace, whole = road.pace, road.whole
    late = pace.top(min(length, road.habit.hole - 1 + behind[1]))
    return late + max(d - fraction(whole.worth) * whole.least(d) for d in range(pace.top(length) - late + 1))


class TestGaps(Case):
    def test_over_all_cases(self):
        for train, pace, habit in itertools.product(TRAINS, PACES, HABITS):
            road = Road(train, pace, habit, zoom=None if pace.rules[0][1] == 2 else Divider(2))
            for length in range(5):
                self.check(road, length, (0, 0))

    def test_over_all_cases_of_habits_by_lot(self):
        for seed in range(12):
            dice = random.Random(seed)
            road = Road(dice.choice(TRAINS), dice.choice(PACES), some(seed, states=2, length=3))
            for length in range(4):
                self.check(road, length, (0, 0))

    def test_over_all_cases_behind(self):
        for seed in range(30):
            dice = random.Random(seed)
            road = Road(dice.choice(TRAINS), dice.choice(PACES), dice.choice(HABITS))
            for length, late, after in itertools.product(range(4), range(3), range(4)):
                if after <= length + late:
                    self.check(road, length, (late, after))

    def check(self, road, length, behind):
        wanted = widest(road, length, behind)
        told = above(road, length, behind), below(road, length, behind)
        self.assertEqual(tuple(fraction(one) for one in told), wanted, (str(road.train), length, behind))
        self.assertTrue(all(isinstance(one, Ratio) for one in told))
        self.assertEqual(by_words(road, length, behind), wanted[0])

    def test_longer_windows_by_the_statement(self):
        trains = [Train(Wheel(9, 11, 10, 10), Divider(2)), Train(Wheel(3, 4), Gear(3, 5)), Train(Wheel(5), Slips(4))]
        for seed in range(12):
            dice = random.Random(seed)
            habit = some(seed, states=3, length=6)
            pace = Pace((1, 3), (4, 6), (7, dice.randint(7, 10)))
            road = Road(dice.choice(trains), pace, habit, zoom=dice.choice([None, Gear(3, 2)]))
            for length in (1, 2, 5, 7, 9):
                for behind in ((0, 0), (3, 1), (0, min(5, length)), (9, 0)):
                    self.assertEqual(fraction(above(road, length, behind)), by_words(road, length, behind))
                    self.assertEqual(fraction(below(road, length, behind)), below_by_words(road, length, behind))

    def test_known_looks(self):
        looks = Looks(2, 0, 1, losses=Losses.runs(2, 1), late=1)
        road = Road(Train(Wheel(3)), Pace((1, 1)), looks)
        known = road.changed(looks=looks.known())
        for length in range(12):
            self.assertTrue(above(road, length) == above(known, length))
            self.assertTrue(below(road, length) == below(known, length))

    def test_plain_gaps_and_from_when(self):
        for seed in range(40):
            dice = random.Random(seed)
            road = Road(dice.choice(TRAINS), dice.choice(PACES), dice.choice(HABITS), zoom=dice.choice([None, Gear(2, 3)]))
            rows = [above(road, length) for length in range(80)]
            plain = plain_above(road)
            top = road.pace.top(road.habit.hole - 1)
            self.assertTrue(plain == top + peak_above(road.whole.most_growth, road.whole.worth)[0])
            self.assertTrue(rows[-1] == plain)
            start = min(k for k in range(80) if all(row == plain for row in rows[k:]))
            self.alike(plain_from(road, "above"), start)
            growth = above_growth(road)
            self.assertEqual(growth, Growth([number_of(road, row) for row in rows]))
            self.assertEqual(len(growth.head), start + 1)
            rows = [below(road, length) for length in range(120)]
            growth = below_growth(road)
            self.assertEqual(list(growth.row(0, 120)), [number_of(road, row) for row in rows])
            if road.train.is_exact:
                plain = plain_below(road)
                self.assertTrue(plain == top + peak_below(road.whole.least_growth, road.whole.worth)[0])
                self.assertTrue(rows[-1] == plain)
                start = min(k for k in range(120) if all(row == plain for row in rows[k:]))
                self.alike((plain_from(road, "below"), len(growth.head)), (start, start + 1))
            else:
                self.fails(Nothing(), plain_below, road)
                self.fails(Nothing(), plain_from, road, "below")
                self.assertGreater(growth(10 ** 20), growth(10 ** 10))

    def test_plain_gaps_behind(self):
        road = Road(Train(Wheel(5)), Pace((1, 3), (4, 6)), Habit.steady(3))
        for behind in ((0, 0), (7, 3), (1000, 1000), (0, 1000)):
            far = 10 ** 30
            self.assertTrue(plain_above(road, behind) == above(road, far, behind))
            self.assertTrue(plain_above(road, behind) == road.pace.top(2 + behind[0]) + 4)
            self.assertTrue(plain_below(road=road, behind=behind) == below(road, far, behind))
            self.assertTrue(plain_below(road, behind) == road.pace.top(2 + behind[1]) + 4)
        # Such a pair may be passed whatever windows there are.
        self.assertTrue(plain_above(road, behind=(0, 5)) == plain_above(road))

    def test_far(self):
        road = Road(Train(Wheel(5), Slips(2)), Pace((60, 10 ** 6)), Habit.steady(60))
        wanted = FAR // 60 * 10 ** 6
        wanted += 10 ** 6 if FAR % 60 else 0
        self.assertEqual(fraction(below(road=road, length=FAR)), 10 ** 6 + best_of(wanted - 10 ** 6))
        self.assertTrue(above(road=road, length=FAR) == plain_above(road))
        # One unit in sixty ticks: the wheel goes round in as many ticks as cannot be gone through.
        slow = Road(Train(Wheel(400)), Pace((60, 1)), Habit.steady(1))
        self.assertTrue(above(slow, 60 * 398 + 1) == 399)
        self.fails(TooMany("ticks", 600), above, slow, 60 * 398)
        self.fails(TooMany("ticks", 600), above, slow, 601)
        self.assertTrue(above(slow, 600) == 399)
        self.alike(plain_from(slow, "above"), 1)
        self.assertTrue(below(slow, 601) == 11)
        self.alike(plain_from(slow, "below"), 60 * 398 + 1)
        self.fails(TooMany("values", 5000), below_growth, slow)

    def test_just_so_many_ticks(self):
        slow = Road(Train(Wheel(400), Gear(3, 2)), Pace((60, 1)), Habit.steady(5))
        self.assertEqual(fraction(above(slow, 600, (0, 0))), by_words(slow, 600, (0, 0)))
        self.fails(TooMany("ticks", 600), above, slow, 600, (1, 0))
        self.fails(TooMany("ticks", 600), above, slow, 601)
        self.assertEqual(fraction(above(slow, 601, (0, 1))), by_words(slow, 601, (0, 1)))
        self.assertEqual(fraction(above(slow, 600, (0, 600))), 0)
        self.assertEqual(fraction(above(slow, 0, (7, 7))), 0)

    def test_plain_from_at_its_edge(self):
        # The 59th count of the gear comes at unit 600 of the wheel at the soonest; that of another one at 601.
        just = Road(Train(Wheel(10, 10, 11), Gear(59, 60)), Pace((1, 1)), Habit.steady(1))
        self.assertEqual(peak_above(just.whole.most_growth, just.whole.worth)[1], 600)
        self.alike(plain_from(road=just, side="above"), 600)
        growth = above_growth(road=just)
        self.assertEqual(len(growth.head), 601)
        self.assertEqual(list(growth.row(0, 610)), [number_of(just, above(just, n)) for n in range(601)] + [growth(600)] * 9)
        more = just.changed(train=Train(Wheel(12), Gear(51, 52)))
        self.assertEqual(peak_above(more.whole.most_growth, more.whole.worth)[1], 601)
        self.assertFalse(above(more, 600) == plain_above(more))
        self.fails(TooMany("ticks", 600), plain_from, more, "above")
        self.fails(TooMany("ticks", 600), above_growth, more)

    def test_growths_below_at_their_edge(self):
        for road in (Road(Train(Wheel(400)), Pace((1, 1)), Habit.steady(60)),
                     Road(Train(Wheel(2, 3), Slips(4)), Pace((1, 3), (4, 6)), Habit.steady(3))):
            growth = below_growth(road=road)
            self.assertEqual(list(growth.row(0, 500)), [number_of(road, below(road, n)) for n in range(500)])
            self.assertEqual(growth(10 ** 30), number_of(road, below(road, 10 ** 30)))
        # The 715th unit comes in tick 4,999 at the soonest, the 716th one in tick 5,000.
        just = Road(Train(Wheel(358), Divider(2)), Pace((1, 1), (14, 2)), Habit.steady(1))
        self.alike((plain_from(just, "below"), len(below_growth(just).head)), (4999, 5000))
        more = just.changed(train=Train(Wheel(239), Divider(3)))
        self.alike(plain_from(more, "below"), 5000)
        self.fails(TooMany("values", 5000), below_growth, more)

    def test_growths_of_as_many_values_as_may_be(self):
        road = Road(Train(Wheel(250), Divider(20)), Pace((1, 3), (4, 6)), Habit.missing(3, 1))
        self.assertEqual([len(road.whole.most_growth.gains), len(road.whole.least_growth.gains)], [5000, 5000])
        for length in (1, 5, 20):
            self.assertEqual(fraction(above(road, length)), by_words(road, length, (0, 0)))
            self.assertEqual(fraction(below(road, length)), below_by_words(road, length, (0, 0)))
        self.assertTrue(above(road, 10 ** 6) == plain_above(road) == 9 + 4999)
        self.assertTrue(below(road, 10 ** 6) == plain_below(road) == 9 + 4999)
        slips = Road(Train(Wheel(250), Slips(20)), Pace((1, 1)), Habit.steady(3))
        growth = below_growth(slips)
        self.assertEqual(len(growth.gains), 5000)
        for n in (0, 1, 2, 3, 250, 4999, 5000, 5001, 7000, 10 ** 9):
            self.assertEqual(growth(n), number_of(slips, below(slips, n)))
        self.fails(TooMany("values", 5000), below_growth, slips.changed(pace=Pace((60, 1))))

    def test_growths_below_of_many_gains(self):
        # Never too many: heads of at most 2,000 values, and gains of the pace and of the train up to 2,000 together.
        for teeth, slips, rules in [((7, 8, 10), Slips(2), ((20, 7),)), ((9,), Slips(3), ((60, 59),)),
                                    ((400,), Slips(5), ((1, 3),)), ((40,), Slips(2), ((1, 2), (25, 30)))]:
            road = Road(Train(Wheel(*teeth), slips), Pace(*rules), Habit.steady(7))
            many = len(road.pace.top_growth.gains) * len(road.whole.least_growth.gains)
            self.assertLessEqual(many, 2000)
            growth = below_growth(road)
            for n in (*range(0, 3000, 7), 10 ** 12, 10 ** 12 + 1, 10 ** 20):
                self.assertEqual(growth(n), number_of(road, below(road, n)))

    def test_aged_over_all_windows(self):
        for seed in range(40):
            dice = random.Random(seed)
            pairs = [(1, dice.randint(3, 6))]
            for _ in range(dice.randint(0, 2)):
                pairs.append((pairs[-1][0] * dice.randint(2, 3), pairs[-1][1] + dice.randint(1, 8)))
            tiers = Tiers(*pairs)
            looks = dice.choice([Habit.steady(2), Habit.missing(2, 1), Looks(2, 0), Looks(2, 0, late=1)])
            road = Road(dice.choice(TRAINS), dice.choice(PACES), looks, tiers=tiers)
            for length, age in itertools.product(range(0, 9, 2), range(0, 16)):
                if age < road.patience:
                    self.fails(NotYet(age), aged, road, "above", length, age)
                    continue
                if age + length > tiers.oldest:
                    self.fails(Forgotten(age), aged, road, "below", length, age)
                    continue
                pairs = {(tiers.offset(a, age + length), tiers.offset(a + length, age)) for a in range(60)}
                for side, gap in (("above", above), ("below", below)):
                    wanted = max(fraction(gap(road, length, pair)) for pair in pairs)
                    self.assertEqual(fraction(aged(road, side, length, age)), wanted)

    def test_aged_at_its_edges(self):
        tiers = Tiers((1, 10), (300, 1000), (600, 2000), (1200, 10 ** 9))
        road = Road(Train(Wheel(5)), Pace((1, 3), (4, 6)), Habit.steady(3), tiers=tiers)
        self.assertTrue(aged(road=road, side="above", length=900, age=1099) == plain_above(road, (599, 0)))
        self.assertTrue(aged(road, "below", 900, 1099) == plain_below(road, (0, 599)))
        self.fails(TooMany("ticks", 600), aged, road, "above", 900, 1100)
        self.fails(TooMany("ticks", 600), aged, road, "below", 0, 2000)
        self.fails(TooMany("ticks", 600), aged, road, "below", 10 ** 9 - 2000, 1999)
        self.fails(Forgotten(1999), aged, road, "below", 10 ** 9 - 1999, 1999)
        self.fails(Forgotten(FAR), aged, road, "below", FAR, FAR)
        slow = Road(Train(Wheel(400)), Pace((60, 1)), Habit.steady(5), tiers=Tiers((1, 700), (2, 3000)))
        self.fails(TooMany("ticks", 600), aged, slow, "above", 601, 5)
        self.assertTrue(aged(slow, "below", 601, 5) == below(slow, 601))
        self.assertTrue(aged(slow, "above", 600, 5) == above(slow, 600))
        # Of all windows one has 600 ticks and one more between the moments at which its ends are read.
        self.fails(TooMany("ticks", 600), aged, slow, "above", 600, 500)
        self.assertTrue(aged(slow, "above", 599, 500) == above(slow, 599, (1, 0)))

    def test_aged_raises_what_one_window_raises(self):
        road = Road(Train(Wheel(68), Divider(8)), Pace((38, 18)), Habit.steady(41), tiers=Tiers((1, 100), (15, 9999)))
        raised = []
        for late in range(15):
            try:
                above(road, 1212, (late, 0))
            except TooMany:
                raised.append(late)
        self.assertTrue(raised and 14 not in raised)
        self.fails(TooMany("ticks", 600), aged, road, "above", 1212, 5)
        self.assertTrue(aged(road, "above", 2000, 5) == plain_above(road, (14, 0)))

    def test_without_a_pair_nothing_lies_behind(self):
        road = Road(Train(Wheel(9)), Pace((1, 3), (4, 6)), Habit.missing(3, 1))
        for length in range(8):
            self.assertTrue(above(road, length) == above(road, length, (0, 0)))
            self.assertTrue(below(road, length) == below(road, length, (0, 0)))
        self.assertTrue(plain_above(road) == plain_above(road, (0, 0)))
        self.assertTrue(plain_below(road) == plain_below(road, (0, 0)))

    def test_errors_in_their_order(self):
        road = Road(Train(Slips(2)), Pace((1, 1)), Habit.steady(3))
        for wrong in OTHERS + [5]:
            for work in (above, below):
                self.fails(BadRoad("road"), work, wrong, wrong, wrong)
            for work in (plain_above, plain_below, plain_from):
                self.fails(BadRoad("road"), work, wrong, wrong)
            for work in (above_growth, below_growth):
                self.fails(BadRoad("road"), work, wrong)
            self.fails(BadRoad("road"), aged, wrong, wrong, wrong, wrong)
            self.fails(BadCase("side"), plain_from, road, wrong)
            self.fails(BadCase("side"), aged, road, wrong, wrong, wrong)
        for wrong in ["Above", "above ", "side"]:
            self.fails(BadCase("side"), plain_from, road, wrong)
        for wrong in OTHERS + [-1, FAR + 1]:
            for work in (above, below):
                self.fails(BadNumber(wrong), work, road, wrong, None)
                self.fails(BadNumber(wrong), work, road, wrong)
            self.fails(BadNumber(wrong), aged, road, "above", wrong, None)
            self.fails(BadNumber(wrong), aged, road, "below", wrong, 0)
            self.fails(BadNumber(wrong), aged, road, "above", FAR, wrong)
        for wrong in OTHERS + [5, (0, 0, 0), [0, 0], (0, -1), (-1, 0), (1001, 0), (0, 1001), (True, 0), (0, False), ("0", 0)]:
            for work in (above, below):
                self.fails(BadNumber(wrong), work, road, FAR, wrong)
            self.fails(BadNumber(wrong), plain_above, road, wrong)
            self.fails(BadNumber(wrong), plain_below, road, wrong)
        for work in (above, below):
            self.fails(BadNumber((3, 9)), work, road, 5, (3, 9))
            self.assertTrue(same(work(road, 5, (3, 8)).down, 1))
        self.fails(BadRoad("tiers"), aged, road, "above", 0, 0)
        tiered = road.changed(tiers=Tiers((1, 4)), looks=Looks(2, 0, late=1))
        self.fails(NotYet(1), aged, tiered, "above", 9, 1)
        self.fails(Forgotten(2), aged, tiered, "above", 2, 2)
        self.assertEqual(fraction(aged(tiered, "above", 1, 2)), fraction(above(tiered, 1)))


def number_of(road, gap):
    """A gap times the scale of its road, an integer."""
    number = gap * road.scale
    assert number.down == 1
    return number.up


def best_of(high):
    """The greatest distance below of a wheel with teeth of 5 and slips of one in two, up to an amount."""
    worth = Ratio(5)
    return fraction(peak_below(Train(Wheel(5), Slips(2)).least_growth, worth, high)[0])


if __name__ == "__main__":
    unittest.main()
