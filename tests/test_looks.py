"""Scheduled looks, and the habit of the known ones."""

import itertools
import random
import unittest

from gaugeroad.errors import BadLooks, BadLosses, BadText, Endless, TooMany
from gaugeroad.habits import Habit
from gaugeroad.looks import Looks
from gaugeroad.losses import Losses
from helpers import OTHERS, Case
from test_losses import some

RULES = [Losses.none(), Losses((0, 1), (0, None)), Losses.runs(2, 1), Losses.share(1, 3), Losses.runs(1, 2)]


def known_rows(looks, many, packets):
    """The rows of lengths between known looks in all packets that the rule lets, each gone through."""
    found = set()
    last = packets - looks.ages[-1]
    for text in map("".join, itertools.product(".x", repeat=packets)):
        if text not in looks.losses:
            continue
        known = [k for k in range(last) if any(text[k + age] == "." for age in looks.ages)]
        for first in range(len(known) - many):
            row = known[first:first + many + 1]
            for lates in itertools.product(range(looks.late + 1), repeat=many + 1):
                moments = [k * looks.period + late for k, late in zip(row, lates)]
                found.add(tuple(b - a for a, b in zip(moments, moments[1:])))
    return found


class TestLooks(Case):
    def test_what_it_has(self):
        rule = Losses.runs(1, 1)
        looks = Looks(3, 0, 2, 3, late=1, losses=rule)
        self.alike((looks.period, looks.ages, looks.late, looks.patience), (3, (0, 2, 3), 1, 11))
        self.assertTrue(looks.losses == rule)
        self.assertTrue(Looks(3, 0).losses == Losses.none())
        self.alike((Looks(60, 0, late=59).patience, Looks(1, 0).patience), (60, 1))
        self.assertTrue(looks == Looks(3, 0, 2, 3, losses=Losses.share(1, 2), late=1))
        for other in (Looks(4, 0, 2, 3, late=1, losses=rule), Looks(3, 0, 3, late=1, losses=rule),
                      Looks(3, 0, 2, 3, losses=rule), Looks(3, 0, 2, 3, late=1), Habit.steady(3), None):
            self.assertFalse(looks == other)

    def test_known_over_all_packets(self):
        for rule, ages, late in itertools.product(RULES, [(0,), (0, 1), (0, 2), (0, 1, 2)], (0, 1, 2)):
            looks = Looks(3, *ages, late=late, losses=rule)
            known = looks.known()
            for many in (1, 2):
                self.assertEqual({row for row in known.pieces(many)}, known_rows(looks, many, 11))
            self.assertEqual(known.hole, max(length for state in known for length, _ in state))
            self.assertLessEqual(len(known), 60)
            self.assertEqual({after for state in known for _, after in state}, set(range(len(known))))

    def test_known_of_rules_by_lot(self):
        dice = random.Random(5)
        told = []
        for _ in range(40):
            looks = Looks(2, *dice.choice([(0,), (0, 1), (0, 2)]), late=dice.randint(0, 1), losses=some(dice, 3))
            # If so many looks in a row can be missing as there are standings at most, then without end.
            many = 3 * 4 + 2
            unseen = {text for text in walks_unseen(looks, many)}
            told.append(bool(unseen))
            if unseen:
                self.fails(Endless(), looks.known)
            else:
                known = looks.known()
                self.assertEqual(set(known.pieces(2)), known_rows(looks, 2, 12))
        self.assertIn(True, told)
        self.assertIn(False, told)

    def test_known_at_the_edges(self):
        self.assertEqual(Looks(5, 0).known(), Habit.steady(5))
        self.assertEqual(set(Looks(5, 0, late=2).known().pieces(3)), set(Habit.loose(5, 2).pieces(3)))
        self.fails(Endless(), Looks(1, 0, losses=Losses((0, 0))).known)
        # No row has a kept packet behind a lost one here: in the row of lost ones alone no look is known.
        self.fails(Endless(), Looks(1, 0, 1, losses=Losses((0, None), (0, 1))).known)
        seldom = Losses.runs(3, 1)
        self.assertEqual(Looks(50, 0, losses=seldom).known().hole, 200)
        self.fails(TooMany("ticks", 200), Looks(51, 0, losses=seldom).known)
        self.fails(TooMany("ticks", 200), Looks(50, 0, losses=seldom, late=1).known)
        self.assertEqual(Looks(49, 0, losses=seldom, late=4).known().hole, 200)
        wide = Looks(60, 0, late=59).known()
        self.alike((len(wide), sum(len(state) for state in wide), wide.hole), (60, 3600, 119))
        full = Looks(7, 0, 4, losses=Losses((0, 1), (2, None), (0, None)), late=0).known()
        self.assertEqual(full.hole, 14)

    def test_errors_in_their_order(self):
        for wrong in OTHERS + [0, 61, -1]:
            self.fails(BadLooks("period"), Looks, wrong, wrong, late=wrong, losses=5)
        self.fails(BadLooks("ages"), Looks, 3)
        for wrong in OTHERS + [1, -1]:
            self.fails(BadLooks("ages"), Looks, 3, wrong, late=wrong, losses=5)
        for wrong in [(0, 0), (0, 2, 1), (0, 5), (0, 1, 1), (0, True), (0, None), (0, "1"), (False,), ((0, 1),)]:
            self.fails(BadLooks("ages"), Looks, 3, *wrong, late=9, losses=5)
        for wrong in OTHERS + [3, -1]:
            self.fails(BadLooks("late"), Looks, 3, 0, late=wrong, losses=5)
        for wrong in OTHERS[1:] + [5, ((0, None),)]:
            self.fails(BadLooks("losses"), Looks, 60, 0, 4, late=59, losses=wrong)
        self.fails(TooMany("standings", 60), Looks, 60, 0, 4, late=59)
        self.fails(TooMany("standings", 60), Looks, 60, 0, 2, late=4, losses=Losses.runs(2, 2))
        self.assertEqual(Looks(60, 0, 2, late=4, losses=Losses.runs(1, 2)).patience, 125)
        self.fails(TooMany("standings", 60), Looks, 60, 0, 4, losses=Losses.runs(1, 1), late=1)
        self.fails(TooMany("standings", 60), Looks, 60, 0, 3, late=0, losses=Losses.runs(7, 1))
        self.assertEqual(Looks(60, 0, 1, 2, losses=Losses.runs(7, 5)).patience, 121)

    def test_texts(self):
        for rule, ages, late in itertools.product(RULES, [(0,), (0, 1), (0, 1, 3)], (0, 2)):
            if (late + 1) * len(rule.places) << ages[-1] > 60:
                continue
            looks = Looks(3, *ages, late=late, losses=rule)
            self.assertTrue(Looks.read(str(looks)) == looks)
            self.alike(str(Looks.read(str(looks))), str(looks))
        text = "every 3 late 1 ages 0 2 losses 0 1 / 0 -"
        self.alike(str(Looks(3, 0, 2, late=1, losses=Losses((0, 1), (0, None)))), text)
        self.alike(str(Looks.read(text=text)), text)
        for period in (1, 60):
            self.alike(Looks.read(f"every {period} late 0 ages 0 losses 0 -").period, period)
        for wrong, word in [("", 0), ("every", 1), ("every 0", 1), ("every 61 late", 1), ("every 3 late 3", 3),
                            ("every 3 late -1", 3), ("every 3 0", 2), ("every 3 late 1 ages", 5),
                            ("every 3 late 1 ages losses", 5), ("every 3 late 1 ages 1", 5), ("every 3 late 1 ages 0", 6),
                            ("every 3 late 1 ages 0 0", 6), ("every 3 late 1 ages 0 5", 6),
                            ("every 3 late 1 ages 0 4 4", 7), ("every 3 late 1 ages 0 4 5 losses 0 -", 7),
                            ("every 3 late 1 ages 0 2 1", 7), ("every 3 late 1 ages 0 / losses 0 -", 6),
                            ("every 3 late 1 ages 0 losses", 7), ("every 3 late 1 ages 0 losses 0 1", 8),
                            ("every 3 late 1 ages 0 losses 0 1 / 0", 11), ("every 3 late 1 ages 0 losses 0 - 0", 9),
                            ("every 3 late 1 ages 0 losses 1 1 / 2 0", 10), (text + " /", 14), (text + " x", 13)]:
            self.fails(BadText(0, word), Looks.read, wrong)
        self.fails(BadLosses(1), Looks.read, "every 60 late 59 ages 0 4 losses 0 - / 0 -")
        self.fails(TooMany("standings", 60), Looks.read, "every 60 late 59 ages 0 4 losses 0 -")
        for wrong in OTHERS[:3] + OTHERS[5:] + [5]:
            self.fails(BadText(0, 0), Looks.read, wrong)


def walks_unseen(looks, many):
    """Rows of places of a walk of the rule with so many looks in a row that are not known, by their packets."""
    rows = [(place, "") for place in range(len(looks.losses.places))]
    for _ in range(many + looks.ages[-1]):
        longer = set()
        for place, text in rows:
            for sign, after in zip(".x", looks.losses.places[place]):
                told = text + sign
                k = len(told) - 1 - looks.ages[-1]
                if after is not None and (k < 0 or all(told[k + age] == "x" for age in looks.ages)):
                    longer.add((after, told))
        rows = sorted(longer)
    return [text for _, text in rows]


if __name__ == "__main__":
    unittest.main()
