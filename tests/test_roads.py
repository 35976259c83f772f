"""Roads."""

import unittest

from gaugeroad.errors import BadRoad, Endless, TooMany
from gaugeroad.habits import Habit
from gaugeroad.looks import Looks
from gaugeroad.losses import Losses
from gaugeroad.paces import Pace
from gaugeroad.parts import Divider, Gear, Slips, Wheel
from gaugeroad.registers import Dials, Plain, Restarting, Wrapping
from gaugeroad.roads import Road
from gaugeroad.tiers import Tiers
from gaugeroad.trains import Train
from helpers import OTHERS, Case

TRAIN, PACE, LOOKS = Train(Wheel(1, 2, 4)), Pace((1, 3), (4, 6)), Looks(3, 0, 2, losses=Losses.runs(1, 1))


class TestRoads(Case):
    def test_what_it_has(self):
        road = Road(train=TRAIN, pace=PACE, looks=LOOKS)
        self.assertTrue(road.train == TRAIN and road.pace == PACE and road.looks == LOOKS)
        self.assertTrue(road.display == Plain() and road.zoom == Gear(1, 1))
        self.alike((road.tiers, road.width, road.patience, road.scale), (None, 1, 7, 3))
        self.assertTrue(road.habit == LOOKS.known())
        self.assertTrue(road.whole == TRAIN + Gear(1, 1))
        habit = Habit.steady(4)
        road = Road(TRAIN, PACE, habit, display=Wrapping(9), tiers=Tiers((1, 2)), width=1000, zoom=Gear(6, 4))
        self.assertTrue(road.display == Wrapping(9) and road.tiers == Tiers((1, 2)) and road.zoom == Gear(3, 2))
        self.assertTrue(road.habit == habit and road.whole == TRAIN + Gear(3, 2))
        self.alike((road.width, road.patience, road.scale), (1000, 1, 9))

    def test_errors_in_their_order(self):
        bad = {"display": 5, "tiers": 5, "width": 0, "zoom": 5}
        for wrong in OTHERS + [5]:
            self.fails(BadRoad("train"), Road, wrong, wrong, wrong, **bad)
            self.fails(BadRoad("pace"), Road, TRAIN, wrong, wrong, **bad)
            self.fails(BadRoad("looks"), Road, TRAIN, PACE, wrong, **bad)
            if wrong is not None:
                self.fails(BadRoad("display"), Road, TRAIN, PACE, LOOKS, **{**bad, "display": wrong})
                self.fails(BadRoad("tiers"), Road, TRAIN, PACE, LOOKS, **{**bad, "tiers": wrong, "display": None})
                if wrong != 5:
                    self.fails(BadRoad("width"), Road, TRAIN, PACE, LOOKS, width=wrong, zoom=5)
                self.fails(BadRoad("zoom"), Road, TRAIN, PACE, LOOKS, zoom=wrong)
        for wrong in [None, -1, 0, 1001, True]:
            self.fails(BadRoad("width"), Road, TRAIN, PACE, LOOKS, width=wrong, zoom=5)
        self.fails(BadRoad("zoom"), Road, TRAIN, PACE, LOOKS, zoom=Wheel(3))
        six = Train(*[Divider(2)] * 6)
        endless, rough = Looks(1, 0, losses=Losses((0, 0))), Train(Gear(3, 2))
        late = Tiers((1, 7), (5, 40))
        self.fails(TooMany("parts", 6), Road, six, PACE, endless, display=Wrapping(2), tiers=Tiers((1, 1)))
        self.fails(Endless(), Road, rough, PACE, endless, display=Wrapping(2), tiers=Tiers((1, 1)))
        seldom = Looks(60, 0, losses=Losses.runs(3, 1))
        self.fails(TooMany("ticks", 200), Road, rough, PACE, seldom, display=Wrapping(2), tiers=Tiers((1, 1)))
        for display in (Wrapping(2), Dials(2, 3)):
            self.fails(BadRoad("fine"), Road, rough, PACE, LOOKS, display=display, tiers=late)
        for display in (Plain(), Restarting()):
            self.fails(BadRoad("keep"), Road, rough, PACE, LOOKS, display=display, tiers=late)
        self.fails(BadRoad("keep"), Road, TRAIN, PACE, Habit.steady(3), tiers=Tiers((1, 1), (2, 9)))
        self.alike(Road(rough, PACE, LOOKS, tiers=Tiers((1, 8))).patience, 7)
        # A zoom that lets out more is no part of the train.
        self.assertTrue(Road(TRAIN, PACE, LOOKS, display=Wrapping(2), zoom=Gear(3, 2)).zoom == Gear(3, 2))

    def test_changed(self):
        road = Road(TRAIN, PACE, LOOKS, display=Wrapping(9), tiers=Tiers((1, 9)), width=4, zoom=Divider(2))
        self.assertTrue(road.changed() == road)
        others = {"train": Train(Slips(2)), "pace": Pace((1, 1)), "looks": Habit.steady(2), "display": Restarting(),
                  "tiers": Tiers((1, 8)), "width": 5, "zoom": Gear(2, 3)}
        for name, other in others.items():
            changed = road.changed(**{name: other})
            self.assertFalse(changed == road)
            for part in others:
                self.assertTrue(getattr(changed, part) == (other if part == name else getattr(road, part)))
        self.assertTrue(road.changed(**others) == Road(**others))
        plain = road.changed(display=None, tiers=None, zoom=None)
        self.assertTrue(plain == Road(TRAIN, PACE, LOOKS, width=4))
        self.fails(BadRoad("name"), road.changed, habit=Habit.steady(2))
        self.fails(BadRoad("name"), road.changed, train=None, Zoom=None)
        self.fails(BadRoad("train"), road.changed, zoom=5, train=None)
        self.fails(BadRoad("width"), road.changed, width=None)
        self.fails(BadRoad("keep"), road.changed, tiers=Tiers((1, 7)))
        self.fails(BadRoad("fine"), road.changed, train=Train(Gear(2, 1)))

    def test_equal(self):
        self.assertTrue(Road(TRAIN, PACE, LOOKS) == Road(Train(Wheel(1, 2, 4)), Pace((4, 6), (1, 3)), Looks.read(str(LOOKS))))
        self.assertFalse(Road(TRAIN, PACE, LOOKS) == Road(TRAIN, PACE, LOOKS.known()))
        for other in OTHERS:
            self.assertFalse(Road(TRAIN, PACE, LOOKS) == other)


if __name__ == "__main__":
    unittest.main()
