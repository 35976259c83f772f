"""Shelves, and the cheapest things of them."""

import itertools
import random
import unittest

from gaugeroad.errors import (BadName, BadNumber, BadRoad, BadShelf, BadWish, Endless, NoName, Nothing, RoadError, TooMany)
from gaugeroad.alarms import Alarm
from gaugeroad.habits import Habit
from gaugeroad.least_roads import Cheapest, NoChoice, cheapest, shows_cheapest, that_do
from gaugeroad.looks import Looks
from gaugeroad.losses import Losses
from gaugeroad.paces import Pace
from gaugeroad.parts import Divider, Gear, Slips, Wheel
from gaugeroad.registers import Plain, Restarting, Wrapping
from gaugeroad.roads import Road
from gaugeroad.shelves import Choice, Shelf
from gaugeroad.trains import Train
from gaugeroad.verdicts import Verdict
from gaugeroad.wishes import Wish
from helpers import OTHERS, Case

KINDS = ("train", "looks", "display", "zoom")
THINGS = {"train": [Train(), Train(Wheel(5)), Train(Wheel(2), Divider(2)), Train(Gear(3, 2)), Train(Wheel(1, 2), Slips(3))],
          "looks": [Habit.steady(1), Habit.missing(2, 1), Looks(3, 0, 1, losses=Losses.runs(1, 1)), Looks(1, 0, losses=Losses((0, 0)))],
          "display": [Plain(), Wrapping(2), Wrapping(9), Restarting()], "zoom": [Gear(1, 1), Divider(2), Gear(3, 2)]}
ROAD = Road(Train(Wheel(5)), Pace((1, 3), (4, 6)), Habit.steady(3), width=3)


def some_shelf(dice, many=3):
    shelf = Shelf()
    for kind in KINDS:
        for name in dice.sample(["a", "b", "abcdefgh", "z", "ab"], dice.randint(0, many)):
            shelf.add(kind, name, dice.randint(0, 3), dice.choice(THINGS[kind]))
    return shelf


def all_choices(told):
    """All choices in their order, by names and prices alone."""
    rows = itertools.product(*[sorted(told[kind]) if told[kind] else [None] for kind in KINDS])
    found = [(sum(told[kind][name][0] for kind, name in zip(KINDS, row) if name is not None), row) for row in rows]
    return [(row, price) for price, row in sorted(found, key=lambda pair: (pair[0], [name or "" for name in pair[1]]))]


class TestShelves(Case):
    def test_beside_plain_dicts(self):
        for seed in range(60):
            dice, shelf = random.Random(seed), Shelf()
            told, done = {kind: {} for kind in KINDS}, []
            for _ in range(40):
                kind, name, price = dice.choice(KINDS), dice.choice("abcdefgh"), dice.randint(0, 9)
                thing, before = dice.choice(THINGS[kind]), {kind: dict(told[kind]) for kind in KINDS}
                deed = dice.choice(["add", "add", "add", "drop", "undo"])
                if deed == "add" and name in told[kind]:
                    self.fails(BadShelf("name"), shelf.add, kind, name, price, thing)
                elif deed == "add" and len(told[kind]) == 6:
                    self.fails(TooMany("things", 6), shelf.add, kind, name, price, thing)
                elif deed == "add":
                    self.assertIsNone(shelf.add(kind=kind, name=name, price=price, thing=thing))
                    told[kind][name] = (price, thing)
                    done.append(("add", before))
                elif deed == "drop" and name not in told[kind]:
                    self.fails(NoName(name), shelf.drop, kind, name)
                elif deed == "drop":
                    self.assertIsNone(shelf.drop(kind=kind, name=name))
                    del told[kind][name]
                    done.append(("drop", before))
                elif done:
                    word, told = done.pop()
                    self.alike(shelf.undo(), word)
                else:
                    self.fails(Nothing(), shelf.undo)
                self.check(shelf, told)

    def check(self, shelf, told):
        self.alike(len(shelf), sum(map(len, told.values())))
        for kind in KINDS:
            self.alike(shelf.named(kind), tuple(sorted(told[kind])))
            for name in "abcdefgh":
                self.assertIs((kind, name) in shelf, name in told[kind])
                if name in told[kind]:
                    price, thing = shelf[kind, name]
                    self.assertTrue(price == told[kind][name][0] and thing == told[kind][name][1])
                else:
                    self.fails(NoName(name), shelf.__getitem__, (kind, name))

    def test_choices(self):
        for seed in range(60):
            dice = random.Random(seed)
            shelf = some_shelf(dice)
            told = {kind: {name: shelf[kind, name] for name in shelf.named(kind)} for kind in KINDS}
            found = [(choice.names, choice.price) for choice in shelf.choices()]
            self.alike(found, all_choices(told))
        self.alike([(choice.names, choice.price) for choice in Shelf().choices()], [((None,) * 4, 0)])
        self.assertIsInstance(next(shelf.choices()), Choice)
        full = Shelf()
        for kind, name in itertools.product(KINDS, "abcdef"):
            full.add(kind, name, ord(name) % 4, THINGS[kind][0])
        found = [(choice.price, choice.names) for choice in full.choices()]
        self.assertEqual((len(full), len(found), found), (24, 1296, sorted(found)))
        choice = Choice(names=[1], price=2)
        self.alike((choice.names, choice.price, choice == Choice([1], 2)), ([1], 2, True))
        self.assertTrue(bool(choice) and not isinstance(choice, Verdict))
        for other in (Choice([1], 3), Choice([2], 2), ([1], 2), None):
            self.assertFalse(choice == other)

    def test_roads_of_choices(self):
        for seed in range(60):
            shelf = some_shelf(random.Random(seed))
            for choice in shelf.choices():
                parts = {kind: shelf[kind, name][1] for kind, name in zip(KINDS, choice.names) if name is not None}
                try:
                    wanted = ROAD.changed(**parts)
                except RoadError as error:
                    self.fails(error, shelf.road_by, ROAD, choice.names)
                    continue
                self.assertTrue(shelf.road_by(road=ROAD, names=choice.names) == wanted)
        shelf = Shelf()
        shelf.add("train", "five", 1, Train(Wheel(5)))
        shelf.add("zoom", "two", 1, Divider(2))
        right = ("five", None, None, "two")
        self.assertTrue(shelf.road_by(ROAD, right) == ROAD.changed(zoom=Divider(2)))
        for wrong in OTHERS + [5, list(right), right[:3], (*right, None), ("five", None, None, None), (None, None, None, "two"),
                               ("six", None, None, "two"), ("five", "two", None, "two"), ("two", None, None, "five"),
                               ("five", 0, None, "two"), ("five", "", None, "two"), (5, None, None, "two")]:
            self.fails(BadShelf("names"), shelf.road_by, ROAD, wrong)
            self.fails(BadRoad("road"), shelf.road_by, wrong, wrong)

    def test_twins_and_equality(self):
        one, other = Shelf(), Shelf()
        one.add("train", "a", 1, Train())
        one.add("looks", "a", 2, Habit.steady(3))
        other.add("looks", "a", 2, Habit.steady(3))
        self.assertFalse(one == other)
        other.add("train", "a", 1, Train())
        self.assertTrue(one == other)
        for kind, name, price, thing in [("train", "b", 1, Train()), ("train", "a", 2, Train()), ("train", "a", 1, Train(Wheel(2)))]:
            changed = other.twin()
            changed.drop("train", "a")
            changed.add(kind, name, price, thing)
            self.assertFalse(changed == one)
        twin = one.twin()
        self.assertTrue(twin == one)
        self.fails(Nothing(), twin.undo)
        twin.drop("train", "a")
        self.assertEqual((len(twin), len(one), twin.undo(), len(twin), one.undo()), (1, 2, "drop", 2, "add"))
        for wrong in OTHERS:
            self.assertFalse(one == wrong)
        looks = Shelf()
        looks.add("looks", "a", 0, Looks(3, 0))
        habit = Shelf()
        habit.add("looks", "a", 0, Looks(3, 0).known())
        self.assertFalse(looks == habit)

    def test_errors_in_their_order(self):
        shelf = Shelf()
        shelf.add("train", "a", 10 ** 9, Train())
        for wrong in OTHERS + [5, "Train", "traini", "pace"]:
            self.fails(BadShelf("kind"), shelf.add, wrong, 5, -1, None)
            self.fails(BadShelf("kind"), shelf.drop, wrong, 5)
            self.fails(BadShelf("kind"), shelf.named, wrong)
            self.fails(BadShelf("kind"), shelf.__getitem__, (wrong, 5))
            self.assertIs((wrong, "a") in shelf, False)
        for wrong in OTHERS + [5, "A", "abcdefghi", "a1", "a b", "a\n", "-"]:
            self.fails(BadName(wrong), shelf.add, "train", wrong, -1, None)
            self.fails(NoName(wrong), shelf.drop, "train", wrong)
            self.fails(NoName(wrong), shelf.__getitem__, ("train", wrong))
            self.assertIs(("train", wrong) in shelf, False)
        for wrong in OTHERS + [-1, 10 ** 9 + 1]:
            self.fails(BadNumber(wrong), shelf.add, "train", "a", wrong, None)
        for wrong in OTHERS + [5, Wheel(5)]:
            self.fails(BadShelf("thing"), shelf.add, "train", "a", 0, wrong)
        for kind, other in itertools.product(KINDS, KINDS):
            if kind != other:
                self.fails(BadShelf("thing"), shelf.add, kind, "a", 0, THINGS[other][0])
        self.fails(BadShelf("name"), shelf.add, "train", "a", 0, Train())
        for name in "bcdef":
            shelf.add("train", name, 0, Train())
        self.fails(BadShelf("name"), shelf.add, "train", "a", 0, Train())
        self.fails(TooMany("things", 6), shelf.add, "train", "g", 0, Train())
        for wrong in OTHERS + [5, "train", ["train", "a"], ("train", "a", "b")]:
            self.fails(BadShelf("place"), shelf.__getitem__, wrong)
            self.assertIs(wrong in shelf, False)
        self.assertEqual((len(shelf), shelf.undo()), (6, "add"))
        self.assertEqual(shelf["train", "a"][0], 10 ** 9)
        with self.assertRaises(TypeError):
            iter(shelf)


def lacked(road, shelf, wish, names):
    try:
        return wish.lacks(shelf.road_by(road, names))
    except RoadError:
        return "road"


class TestLeastRoads(Case):
    def test_beside_all_choices(self):
        kinds = set()
        for seed in range(80):
            dice = random.Random(seed)
            shelf = some_shelf(dice)
            wish = Wish(dice.randint(0, 6), most_above=dice.choice([None, 8]), most_below=dice.choice([None, 4, 7]),
                        sure=dice.choice([True, False]), hears=dice.choice([None, (Alarm(4, 2), (9, 4))]))
            told, bars = cheapest(ROAD, shelf, wish), []
            for choice in shelf.choices():
                part = lacked(ROAD, shelf, wish, choice.names)
                if part is None:
                    self.assertTrue(told == Cheapest(choice.names, choice.price, tuple(bars)))
                    break
                bars.append((choice.names, part))
            else:
                self.assertTrue(told == NoChoice(tuple(bars)))
            kinds.add(type(told))
            self.assertIs(shows_cheapest(ROAD, shelf, wish, told), True)
            self.look(shelf, wish, told)
        self.assertEqual(kinds, {Cheapest, NoChoice})

    def look(self, shelf, wish, told):
        """Bars near the right ones: each part that is lacked does, and no other one."""
        rows = list(told.bars)
        for at in range(min(len(rows), 6)):
            names, part = rows[at]
            for other in ("sure", "above", "below", "heard", "road", None, "x", 5):
                bars = tuple((names, other) if k == at else row for k, row in enumerate(rows))
                parts = {**vars(told), "bars": bars}
                self.assertIs(shows_cheapest(ROAD, shelf, wish, type(told)(**parts)), self.lacks(shelf, wish, names, part, other))
            for bars in (rows[:at] + rows[at + 1:], rows[:at] + rows[at:at + 1] + rows[at:], rows[1:] + rows[:1] + [rows[0]],
                         [(list(names), part), *rows[1:]], [[names, part], *rows[1:]], [(names, part, 1), *rows[1:]]):
                parts = {**vars(told), "bars": tuple(bars)}
                self.assertIs(shows_cheapest(ROAD, shelf, wish, type(told)(**parts)), False)
        for bars in OTHERS + [rows, (*rows, 5), (*rows, (("a",) * 4, "road"))]:
            if bars != () or rows:
                self.assertIs(shows_cheapest(ROAD, shelf, wish, type(told)(**{**vars(told), "bars": bars})), False)
        for value in OTHERS + [5, NoChoice(told.bars) if isinstance(told, Cheapest) else Cheapest((None,) * 4, 0, told.bars)]:
            self.assertIs(shows_cheapest(ROAD, shelf, wish, value), False)
        if isinstance(told, Cheapest):
            for names, price in [(list(told.names), told.price), (told.names, told.price + 1), (told.names, str(told.price)),
                                 (("x",) * 4, told.price), (None, told.price), (told.names, float(told.price)),
                                 (told.names, [False, True, None][min(told.price, 2)])]:
                self.assertIs(shows_cheapest(ROAD, shelf, wish, Cheapest(names, price, told.bars)), False)

    def lacks(self, shelf, wish, names, part, other):
        if part == "road" or other not in ("sure", "above", "below", "heard"):
            return part == other
        alone = {"sure": Wish(wish.length, sure=wish.sure), "above": Wish(wish.length, most_above=wish.most_above),
                 "below": Wish(wish.length, most_below=wish.most_below), "heard": Wish(wish.length, hears=wish.hears)}
        return alone[other].lacks(shelf.road_by(ROAD, names)) is not None

    def test_that_do(self):
        for seed in range(60):
            dice = random.Random(seed)
            wish = Wish(dice.randint(0, 6), most_above=dice.choice([None, 8]), most_below=dice.choice([None, 4, 7]),
                        sure=dice.choice([True, False]))
            for kind in KINDS:
                things = [dice.choice(THINGS[kind]) for _ in range(dice.randint(0, 5))]
                wanted = []
                for at, thing in enumerate(things):
                    try:
                        if wish.lacks(ROAD.changed(**{kind: thing})) is None:
                            wanted.append(at)
                    except RoadError:
                        pass
                self.alike(that_do(ROAD, wish, kind, *things), tuple(wanted))
        self.alike(that_do(ROAD, Wish(1), "looks", Looks(1, 0, losses=Losses((0, 0))), Habit.steady(1)), (1,))
        self.fails(Endless(), ROAD.changed, looks=Looks(1, 0, losses=Losses((0, 0))))

    def test_a_full_shelf(self):
        full = Shelf()
        for kind, name in itertools.product(KINDS, "abcdef"):
            full.add(kind, name, 1, THINGS[kind][0])
        full.drop("display", "f")
        full.add("display", "f", 0, Restarting())
        found = cheapest(ROAD, full, Wish(2, most_above=0))
        self.assertEqual((bool(found), found.price), (True, 3))
        found = cheapest(ROAD, full, Wish(2, sure=True))
        self.assertEqual((found.names, found.price, len(found.bars)), (("a",) * 4, 4, 216))
        self.assertEqual({part for _, part in found.bars}, {"sure"})
        full.drop("display", "a")
        self.assertIs(shows_cheapest(ROAD, full, Wish(2, sure=True), found), False)

    def test_errors_in_their_order(self):
        shelf, wish = Shelf(), Wish(5, hears=(Alarm(50, 1), (1, 1)))
        shelf.add("train", "a", 0, Train())
        for wrong in OTHERS + [5]:
            for asked in (cheapest, lambda *told: shows_cheapest(*told, None)):
                self.fails(BadRoad("road"), asked, wrong, wrong, wrong)
                self.fails(BadShelf("shelf"), asked, ROAD, wrong, wrong)
                self.fails(BadWish("wish"), asked, ROAD, shelf, wrong)
            self.fails(BadRoad("road"), that_do, wrong, wrong, wrong, wrong)
            self.fails(BadWish("wish"), that_do, ROAD, wrong, wrong, wrong)
            self.fails(BadShelf("kind"), that_do, ROAD, wish, wrong, wrong)
            self.fails(BadShelf(1), that_do, ROAD, wish, "train", Train(), wrong, wrong)
            self.fails(BadShelf(0), that_do, ROAD, wish, "zoom", wrong, Gear(1, 1))
        wide = ROAD.changed(width=21)
        self.fails(TooMany("ticks", 1000), cheapest, wide, shelf, wish)
        self.fails(TooMany("ticks", 1000), shows_cheapest, wide, shelf, wish, None)
        self.fails(TooMany("ticks", 1000), that_do, wide, wish, "train", Train())
        self.alike(that_do(wide, wish, "train"), ())

    def test_papers(self):
        for kind, parts, truth in [(Cheapest, ["names", "price", "bars"], True), (NoChoice, ["bars"], False)]:
            values = [[k] for k in range(len(parts))]
            paper = kind(**dict(zip(parts, values)))
            for part, value in zip(parts, values):
                self.assertIs(getattr(paper, part), value)
            self.assertIs(bool(paper), truth)
            self.assertIsInstance(paper, Verdict)
            self.assertTrue(paper == kind(*[[k] for k in range(len(parts))]))
            for at in range(len(parts)):
                self.assertFalse(paper == kind(*[None if k == at else values[k] for k in range(len(parts))]))
            self.assertFalse(paper == values)


if __name__ == "__main__":
    unittest.main()
