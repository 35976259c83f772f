"""Paces."""

import itertools
import random
import unittest

from gaugeroad.errors import BadNumber, BadPace, BadText, TooMany
from gaugeroad.paces import Pace
from helpers import OTHERS, Case

FAR = 10 ** 40
NO_RULES = OTHERS + [(1,), (1, 1, 1), [1, 1], (0, 1), (61, 1), (1, 0), (1, 10 ** 6 + 1), (True, 1), (1, True), ("1", 1),
                     (1, None), ((1, 1),)]


def some(seed, ticks=8, most=12):
    dice = random.Random(seed)
    return Pace(*[(dice.randint(1, ticks), dice.randint(1, most)) for _ in range(dice.randint(1, 5))])


def all_rows(pace, ticks, most):
    """What can come tick by tick, gone through whole: each row of amounts that keeps the rules."""
    rows = [()]
    for _ in range(ticks):
        rows = [(*row, k) for row in rows for k in range(most + 1) if keeps((*row, k), pace)]
    return rows


def keeps(row, pace):
    return all(sum(row[max(0, len(row) - ticks):]) <= most for ticks, most in pace.rules)


def cheapest(rules, k):
    """The least sum of rules whose ticks together are at least k, by how often each is taken."""
    best = {0: 0}
    while min(best) < k:
        at = min(best)
        paid = best.pop(at)
        for ticks, most in rules:
            reached = min(k, at + ticks)
            best[reached] = min(best.get(reached, paid + most), paid + most)
    return best[k]


class TestPaces(Case):
    def test_top_over_all_histories(self):
        for rules in itertools.combinations([(1, 2), (2, 3), (3, 4), (2, 2), (1, 3), (4, 5)], 3):
            pace = Pace(*rules)
            for ticks in range(0, 6):
                self.assertEqual(pace.top(ticks), max([sum(row) for row in all_rows(pace, ticks, 3)]), (rules, ticks))

    def test_top_by_covers(self):
        for seed in range(120):
            pace = some(seed, ticks=60 if seed < 40 else 9)
            wanted = [cheapest(pace.rules, k) for k in range(120)]
            self.assertEqual([pace.top(k) for k in range(120)], wanted)
            self.assertEqual(pace.top_growth.row(0, 120), tuple(wanted))
            for k in list(range(50)) + [10 ** 32, 10 ** 32 - seed, 10 ** 9 + seed]:
                times = pace.covering(k)
                self.assertIsInstance(times, tuple)
                self.assertEqual(len(times), len(pace))
                self.assertTrue(all(type(one) is int and one >= 0 for one in times))
                self.assertGreaterEqual(sum(n * rule[0] for n, rule in zip(times, pace)), k)
                self.assertEqual(sum(n * rule[1] for n, rule in zip(times, pace)), pace.top(k))

    def test_long_heads(self):
        pace = Pace((60, 59), (59, 59), (58, 58), (57, 58), (31, 33), (1, 40))
        wanted = [cheapest(pace.rules, k) for k in range(0, 5000, 97)]
        self.assertEqual([pace.top(k) for k in range(0, 5000, 97)], wanted)
        self.assertEqual(pace.top(60 * 10 ** 20 + 4000), 59 * 10 ** 20 + pace.top(4000))
        for k in (1, 59, 61, 1771, 3541, 3600, 10 ** 32):
            times = pace.covering(k)
            self.assertGreaterEqual(sum(n * rule[0] for n, rule in zip(times, pace)), k)
            self.assertEqual(sum(n * rule[1] for n, rule in zip(times, pace)), pace.top(k))

    def test_soonest_and_holds(self):
        for seed in range(60):
            pace = some(seed)
            tops = [pace.top(k) for k in range(400)]
            for amount in range(0, 40):
                self.assertEqual(pace.soonest(amount), min(k for k in range(400) if tops[k] >= amount))
            for ticks, most in itertools.product(range(12), range(20)):
                self.assertIs(pace.holds(ticks, most), tops[ticks] <= most)
            far = pace.soonest(amount=FAR)
            self.assertTrue(pace.top_growth.value_at(far - 1) < FAR <= pace.top_growth.value_at(far))
        self.assertTrue(Pace((1, 1)).holds(ticks=10 ** 32, most=10 ** 32))
        self.assertFalse(Pace((1, 1)).holds(10 ** 32, 10 ** 32 - 1))

    def test_keeping_over_all_histories(self):
        rules = [(1, 1), (1, 2), (2, 2), (2, 3), (3, 3), (3, 4)]
        paces = [Pace(*some) for many in (1, 2) for some in itertools.combinations(rules, many)]
        for one, other in itertools.product(paces, repeat=2):
            rows = all_rows(one, 4, 4)
            wanted = all(keeps(row[:k], other) for row in rows for k in range(1, 5))
            self.assertIs(one.keeps(other), wanted)

    def test_needless(self):
        for seed in range(150):
            pace = some(seed)
            wanted = []
            for rule in pace:
                others = [one for one in pace if one != rule]
                if others and cheapest(others, rule[0]) <= rule[1]:
                    wanted.append(rule)
            self.assertEqual(pace.needless(), tuple(wanted))
            tight = pace.tight()
            self.assertEqual(tight.rules, tuple(rule for rule in pace if rule not in wanted))
            self.assertEqual(tight.top_growth, pace.top_growth)
            self.assertEqual(tight.needless(), ())
            other = some(seed + 1)
            both = pace.keeps(other) and other.keeps(pace)
            self.assertIs(both, pace.tight() == other.tight())
        self.assertEqual(Pace((1, 1)).needless(), ())

    def test_what_it_has(self):
        pace = Pace((4, 6), (1, 3), (4, 6), (4, 5))
        self.alike(pace.rules, ((1, 3), (4, 5), (4, 6)))
        self.assertEqual((len(pace), list(pace)), (3, [(1, 3), (4, 5), (4, 6)]))
        self.assertTrue((4, 6) in pace and (4, 7) not in pace)
        self.assertFalse((True, 3) in pace or [4, 6] in pace)
        for wrong in NO_RULES:
            self.assertFalse(wrong in pace)
        self.assertEqual((Pace.MOST, Pace.LONGEST), (6, 60))
        self.assertEqual(Pace.steady(most=10 ** 6), Pace((1, 10 ** 6)))
        self.assertEqual(Pace.steady(1), Pace((1, 1)))
        self.assertNotEqual(pace, Pace((1, 3), (4, 5)))
        for value in OTHERS:
            self.assertFalse(pace == value)
        self.assertEqual(Pace(*[(1, 3)] * 100), Pace((1, 3)))

    def test_both(self):
        self.assertEqual(Pace((1, 3), (4, 6)) & Pace((4, 6), (2, 5)), Pace((1, 3), (2, 5), (4, 6)))
        six = Pace(*[(1, k) for k in range(1, 7)])
        self.assertEqual(six & six, six)
        self.fails(TooMany("rules", 6), lambda: six & Pace((1, 7)))
        for wrong in NO_RULES:
            self.fails(BadPace("other"), lambda other: six & other, wrong)
            self.fails(BadPace("other"), six.keeps, wrong)

    def test_wrong_rules(self):
        self.fails(BadPace(None), Pace)
        for wrong in NO_RULES:
            self.fails(BadPace(0), Pace, wrong, wrong)
            self.fails(BadPace(8), Pace, *[(1, k + 1) for k in range(8)], wrong)
        self.fails(TooMany("rules", 6), Pace, *[(1, k + 1) for k in range(7)])
        self.assertEqual(len(Pace((1, 1), (60, 10 ** 6), (60, 1), (1, 10 ** 6), (2, 2), (3, 3))), 6)

    def test_numbers(self):
        pace = Pace((1, 3), (4, 6))
        for wrong in OTHERS + [-1, 10 ** 32 + 1]:
            self.fails(BadNumber(wrong), pace.top, wrong)
            self.fails(BadNumber(wrong), pace.covering, wrong)
            self.fails(BadNumber(wrong), pace.holds, wrong, None)
        for wrong in OTHERS + [-1, FAR + 1]:
            self.fails(BadNumber(wrong), pace.soonest, wrong)
            self.fails(BadNumber(wrong), pace.holds, 1, wrong)
        for wrong in OTHERS + [0, 10 ** 6 + 1]:
            self.fails(BadNumber(wrong), Pace.steady, wrong)
        self.alike((pace.top(k=0), pace.covering(k=0), pace.soonest(0)), (0, (0, 0), 0))

    def test_texts(self):
        for text in ["1 1", "60 1000000", "1 3 / 4 6", "1 1 / 1 2 / 1 3 / 2 1 / 60 999999 / 60 1000000"]:
            self.assertEqual(str(Pace.read(text)), text)
        for wrong in OTHERS:
            if not isinstance(wrong, str):
                self.fails(BadText(0, 0), Pace.read, wrong)
        told = [("", 0), ("1", 1), ("0 1", 0), ("61 1", 0), ("1 0", 1), ("1 1000001", 1), ("1 1 /", 3), ("1 1 / ", 3),
                ("1 1 2", 2), ("4 6 / 1 3", 3), ("4 6 / 4 6", 4), ("4 6 / 4 5", 4), ("4 6 / 4", 4), ("4 6 / 5 1 ", 5),
                ("1 1000000 / 1 1000000", 4), ("1 1 / / 2 2", 3), ("/ 1 1", 0), ("01 1", 0), ("-", 0),
                (" / ".join(f"1 {k}" for k in range(1, 8)), 17), (" / ".join(f"1 {k}" for k in range(1, 7)) + " 3", 17)]
        for text, word in told:
            self.fails(BadText(0, word), Pace.read, text)


if __name__ == "__main__":
    unittest.main()
