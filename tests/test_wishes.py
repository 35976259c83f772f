"""Wishes of roads."""

import itertools
import random
import unittest

from gaugeroad.alarms import Alarm, heard
from gaugeroad.errors import BadNumber, BadRoad, BadWish, TooMany
from gaugeroad.gaps import above, below
from gaugeroad.habits import Habit
from gaugeroad.holes import sureness
from gaugeroad.paces import Pace
from gaugeroad.parts import Divider, Slips, Wheel
from gaugeroad.ratios import Ratio
from gaugeroad.registers import Dials, Plain, Restarting, Wrapping
from gaugeroad.roads import Road
from gaugeroad.tiers import Tiers
from gaugeroad.trains import Train
from gaugeroad.wishes import Wish
from helpers import OTHERS, Case

FAR = 10 ** 30
ROAD = Road(Train(Wheel(5)), Pace((1, 3), (4, 6)), Habit.steady(3), width=6)
HEARD, MISSED = (Alarm(2, 2), (11, 7)), (Alarm(2, 3), (11, 7))


class TestWishes(Case):
    def test_what_it_has(self):
        wish = Wish(length=5, most_above=3, most_below=Ratio(7, 2), sure=True, hears=HEARD)
        self.alike((wish.length, wish.sure), (5, True))
        self.assertTrue(isinstance(wish.most_above, Ratio) and wish.most_above == 3 and wish.most_below == Ratio(7, 2))
        self.assertTrue(wish.hears == HEARD)
        bare = Wish(600)
        self.alike((bare.length, bare.most_above, bare.most_below, bare.sure, bare.hears), (600, None, None, False, None))
        self.assertTrue(Wish(0, most_above=0, most_below=FAR) == Wish(0, most_above=Ratio(0), most_below=Ratio(FAR)))

    def test_errors_in_their_order(self):
        bad = {"most_above": -1, "most_below": -1, "sure": 1, "hears": 1}
        for wrong in OTHERS + [-1, 601]:
            self.fails(BadNumber(wrong), Wish, wrong, **bad)
        numbers = [other for other in OTHERS if other is not None] + [-1, FAR + 1, Ratio(-1, 9), Ratio(9 * FAR + 1, 9), "1", 1.0]
        for wrong in numbers:
            self.fails(BadWish("most_above"), Wish, 5, **{**bad, "most_above": wrong})
            self.fails(BadWish("most_below"), Wish, 5, **{**bad, "most_above": 0, "most_below": wrong})
        for wrong in [None, 0, 1, "x", (), [True]]:
            self.fails(BadWish("sure"), Wish, 5, sure=wrong, hears=1)
        for wrong in [other for other in OTHERS if other is not None] + [
                5, list(HEARD), HEARD[:1], (*HEARD, 1), HEARD[::-1], (Alarm(1, 1), [1, 1]), (Alarm(1, 1), (0, 1)),
                (Alarm(1, 1), (1, 201)), (Alarm(1, 1), (True, 1)), (None, (1, 1)), (Alarm(1, 1), None)]:
            self.fails(BadWish("hears"), Wish, 5, hears=wrong)

    def test_what_is_lacked(self):
        parts = set()
        for seed in range(200):
            dice = random.Random(seed)
            length = dice.randint(0, 9)
            road = Road(dice.choice([Train(), Train(Wheel(5)), Train(Wheel(1, 2), Slips(3))]), Pace((1, 3), (4, 6)),
                        dice.choice([Habit.steady(3), Habit.missing(2, 1)]), width=dice.randint(1, 6),
                        display=dice.choice([Plain(), Plain(), Wrapping(3), Dials(3, 5), Restarting()]),
                        tiers=dice.choice([None, None, Tiers((1, 12))]))
            named = {"most_above": dice.choice([None, 0, 5, 12, Ratio(41, 4)]), "most_below": dice.choice([None, 5, 9, 20]),
                     "sure": dice.choice([True, False]), "hears": dice.choice([None, HEARD, MISSED, (Alarm(5, 1), (3, 2))])}
            wish = Wish(length, **named)
            lacked = []
            is_sure = isinstance(road.display, Plain) or (not isinstance(road.display, Restarting) and bool(
                sureness(road.train, road.display, road.pace, road.habit.hole)))
            if named["sure"] and not is_sure:
                lacked.append("sure")
            for part, gap in (("above", above), ("below", below)):
                bound = named["most_" + part]
                if bound is not None and not gap(road, length).at_most(bound):
                    lacked.append(part)
            if named["hears"] is not None and not self.hears(road, *named["hears"]):
                lacked.append("heard")
            parts.update(lacked or [None])
            self.alike(wish.lacks(road), lacked[0] if lacked else None)
            self.assertIs(wish.kept_by(road), not lacked)
        self.assertEqual(parts, {"sure", "above", "below", "heard", None})

    def hears(self, road, alarm, burst):
        try:
            return bool(heard(road, alarm, burst))
        except Exception as error:
            self.assertIn(type(error).__name__, ("BadRoad", "BadAlarm"))
            return False

    def test_bounds_are_met(self):
        for part, gap in (("most_above", above(ROAD, 5)), ("most_below", below(ROAD, 5))):
            self.assertIsNone(Wish(5, **{part: gap}).lacks(ROAD))
            self.assertEqual(Wish(5, **{part: gap - Ratio(1, 10 ** 9)}).lacks(road=ROAD), part[5:])
        self.assertTrue(Wish(5, hears=(Alarm(1, 10 ** 20), (10 ** 9, 200))).kept_by(ROAD))
        self.assertFalse(Wish(5, hears=(Alarm(1, 10 ** 20), (10 ** 9, 200))).kept_by(ROAD.changed(display=Restarting())))

    def test_errors_of_what_is_asked(self):
        wish = Wish(5, hears=(Alarm(50, 1), (1, 1)))
        for wrong in OTHERS + [5, wish]:
            self.fails(BadRoad("road"), wish.lacks, wrong)
            self.assertIs(wish.kept_by(wrong), False)
        wide = ROAD.changed(width=21)
        self.fails(TooMany("ticks", 1000), wish.lacks, wide)
        self.fails(TooMany("ticks", 1000), wish.kept_by, wide)
        # What is lacked ahead of it is told first.
        self.assertEqual(Wish(5, most_above=1, hears=wish.hears).lacks(wide), "above")
        self.assertEqual(wish.lacks(wide.changed(display=Wrapping(2))), "heard")
        self.assertEqual(wish.lacks(ROAD.changed(width=6, tiers=Tiers((1, 300)))), "heard")

    def test_both_together(self):
        values = {"most_above": [None, 3, Ratio(5, 2)], "most_below": [None, 3, 2], "sure": [True, False],
                  "hears": [None, HEARD]}
        rows = [dict(zip(values, row)) for row in itertools.product(*values.values())]
        for one, other in itertools.product(rows, rows):
            both = Wish(5, **one) & Wish(5, **other)
            for part in ("most_above", "most_below"):
                bounds = [Ratio(2 * row[part].up, 2 * row[part].down) if isinstance(row[part], Ratio) else Ratio(row[part])
                          for row in (one, other) if row[part] is not None]
                wanted = None
                for bound in bounds:
                    wanted = bound if wanted is None or bound.less(wanted) else wanted
                self.assertTrue(getattr(both, part) == wanted)
            self.assertIs(both.sure, one["sure"] or other["sure"])
            self.assertTrue(both.hears == (one["hears"] or other["hears"]))
            self.assertIs(Wish(5, **one) == Wish(5, **other), one == other)
        one = Wish(5, hears=HEARD)
        for wrong in OTHERS + [5, ROAD]:
            with self.assertRaises(BadWish) as caught:
                one & wrong
            self.assertEqual(caught.exception.part, "other")
        for other, part in ((Wish(6, hears=MISSED), "length"), (Wish(5, hears=MISSED), "hears")):
            with self.assertRaises(BadWish) as caught:
                one & other
            self.assertEqual(caught.exception.part, part)
        self.assertTrue(one & Wish(5, hears=(Alarm(2, 2, 2), (11, 7))) == one)
        self.assertFalse(one == Wish(6, hears=HEARD))
        for other in OTHERS + [HEARD]:
            self.assertFalse(one == other)


if __name__ == "__main__":
    unittest.main()
