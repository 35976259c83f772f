"""Stores of known looks."""

import random
import unittest

from gaugeroad.errors import BadNumber, BadStore, Forgotten, Nothing, NotYet, RoadError, Unlike
from gaugeroad.stores import Look, Store
from gaugeroad.tiers import Tiers
from gaugeroad.verdicts import Verdict
from helpers import OTHERS, Case
from test_lines import outcome
from test_tiers import some

FAR = 10 ** 30


class Keeper:
    """A store that keeps every look."""

    def __init__(self, tiers, patience, now):
        self.tiers, self.patience, self.now, self.looks = tiers, patience, now, {}

    def last(self, moment):
        at = [k for k in self.looks if k <= moment]
        return self.looks[max(at)] if at else None

    def read(self, border):
        age = self.now - border
        if age < self.patience:
            return "NotYet"
        if age >= self.tiers.pairs[-1][1]:
            return "Forgotten"
        width = next(width for width, keep in self.tiers.pairs if age < keep)
        return self.last(border // width * width) or "Nothing"

    def kept(self):
        """By the words of `kept`: all borders that can be read at some time up to long behind are gone through."""
        found = {k for k in self.looks if self.now - k < self.patience}
        last, first = self.tiers.oldest, min(self.looks, default=self.now)
        for border in range(self.now - last, self.now + 2 * self.tiers.pairs[-1][0] + 2):
            for age in range(max(self.patience, self.now - border), last + 1):
                width = next(width for width, keep in self.tiers.pairs if age < keep)
                at = [k for k in self.looks if k <= border // width * width]
                if at:
                    found.add(max(at))
        return tuple(self.looks[k] for k in sorted(found))


def play(dice, tiers, patience, begin, steps, check):
    """A store and a keeper with the same looks, some of them known late."""
    store, keeper = Store(tiers, patience, begin), Keeper(tiers, patience, begin)
    for _ in range(steps):
        moment = keeper.now + dice.choice([0, 0, 1, 1, 2, 5, 9])
        store.pass_to(moment)
        keeper.now = moment
        for _ in range(dice.randint(0, 2)):
            at = moment - dice.randrange(patience)
            if at in keeper.looks:
                continue
            ahead, behind = keeper.last(at), min((k for k in keeper.looks if k > at), default=None)
            tally = ahead.tally if ahead else (0 if behind is not None else dice.randint(0, 5))
            life = ahead.life if ahead else (0 if behind is None else keeper.looks[behind].life)
            if behind is None and ahead and dice.random() < 0.2:
                life, tally = life + 1, 0
            elif behind is None:
                tally += dice.randint(0, 5)
            elif keeper.looks[behind].life == life and ahead:
                tally = dice.randint(tally, keeper.looks[behind].tally)
            store.put(at, tally, life)
            keeper.looks[at] = Look(at, tally, life)
        check(store, keeper)
    return store, keeper


class TestStores(Case):
    def test_beside_one_that_keeps_every_look(self):
        for seed in range(40):
            dice = random.Random(seed)
            tiers = some(dice)
            patience = dice.randint(1, min(6, tiers.oldest)) if tiers.oldest >= 1 else 1
            if patience > tiers.oldest:
                continue

            def check(store, keeper):
                self.assertEqual(store.now, keeper.now)
                for border in range(keeper.now - tiers.oldest - 3, keeper.now + 2):
                    told = keeper.read(border)
                    if isinstance(told, str):
                        error = {"NotYet": NotYet(border), "Forgotten": Forgotten(border), "Nothing": Nothing()}[told]
                        self.fails(error, store.look_at, border)
                        self.fails(error, lambda: store[border])
                    else:
                        self.assertEqual(store.look_at(border), told)
                        self.alike(store[border], told.tally)
                kept = keeper.kept()
                self.assertEqual(store.kept(), kept)
                self.assertEqual((list(store), len(store)), (list(kept), len(kept)))
                for look in keeper.looks.values():
                    self.assertIs(look.moment in store, look in kept)

            play(dice, tiers, patience, dice.choice([0, -50, 7]), 25, check)

    def test_what_is_kept_hangs_on_looks_and_now_alone(self):
        for seed in range(20):
            dice = random.Random(seed)
            tiers = Tiers((1, 6), (3, 14), (6, 40))
            store, keeper = play(dice, tiers, 3, 0, 12, lambda *_: None)
            slow, fast = store.twin(), store.twin()
            fast.pass_to(store.now + 30)
            for moment in range(store.now, store.now + 31):
                slow.pass_to(moment)
            self.assertTrue(slow == fast)
            self.assertEqual(slow.kept(), fast.kept())

    def test_far_moments(self):
        tiers = Tiers((1, 10), (5, 10 ** 9))
        store = Store(tiers=tiers, patience=2, begin=-FAR)
        store.put(moment=-FAR, tally=10 ** 40, life=0)
        self.alike((store.now, -FAR in store), (-FAR, True))
        self.fails(NotYet(-FAR), store.look_at, -FAR)
        store.pass_to(moment=2 - FAR)
        self.assertEqual(store.look_at(border=-FAR), Look(-FAR, 10 ** 40, 0))
        store.pass_to(FAR)
        self.assertEqual(store.kept(), (Look(-FAR, 10 ** 40),))
        store.put(FAR, 10 ** 40, 10 ** 6)
        self.assertEqual(store.look_at(FAR - 2), Look(-FAR, 10 ** 40))
        self.fails(Forgotten(-FAR), store.look_at, -FAR)
        far = Store(Tiers((1, 10 ** 6 + 1)), 10 ** 6)
        self.alike((far.patience, far.tiers.pairs, far.now), (10 ** 6, ((1, 10 ** 6 + 1),), 0))

    def test_making_one(self):
        for wrong in OTHERS + [5, ((1, 10),)]:
            self.fails(BadStore("tiers"), Store, wrong, wrong, wrong)
        tiers = Tiers((1, 10))
        for wrong in OTHERS + [0, -1, 10 ** 6 + 1]:
            self.fails(BadNumber(wrong), Store, tiers, wrong, wrong)
        for wrong in OTHERS + [FAR + 1, -FAR - 1]:
            self.fails(BadNumber(wrong), Store, tiers, 10, wrong)
        self.fails(BadStore("patience"), Store, tiers, 10)
        self.assertEqual(Store(tiers, 9).patience, 9)

    def test_errors_in_their_order(self):
        store = Store(Tiers((1, 10), (5, 40)), 5)
        store.pass_to(20)
        for moment, tally, life in [(16, 10, 1), (18, 20, 1), (20, 0, 2)]:
            self.assertIsNone(store.put(moment, tally, life))
        before = store.twin()
        for wrong in OTHERS + [19, FAR + 1]:
            self.fails(BadNumber(wrong), store.pass_to, wrong)
        for wrong in OTHERS + [FAR + 1, -FAR - 1]:
            self.fails(BadNumber(wrong), store.put, wrong, None, None)
            self.fails(BadNumber(wrong), store.put, wrong, 0)
            self.fails(BadNumber(wrong), store.look_at, wrong)
            self.fails(BadNumber(wrong), lambda: store[wrong])
        for wrong in OTHERS + [-1, 10 ** 40 + 1]:
            self.fails(BadNumber(wrong), store.put, 99, wrong, None)
            self.fails(BadNumber(wrong), store.put, 99, wrong)
        for wrong in OTHERS + [-1, 10 ** 6 + 1]:
            self.fails(BadNumber(wrong), store.put, 99, 5, wrong)
        self.fails(BadStore("ahead"), store.put, 21, 0)
        self.fails(BadStore("late"), store.put, 15, 50)
        self.fails(BadStore("late"), store.put, -5, 0, 1)
        self.assertIsNone(store.put(18, 20, 1))
        for tally, life in [(21, 1), (20, 0), (20, 3), (0, 0)]:
            self.fails(Unlike("look"), store.put, 18, tally, life)
        self.fails(BadStore("life"), store.put, 17, 50, 0)
        self.fails(BadStore("life"), store.put, 17, 50, 2)
        self.fails(BadStore("life"), store.put, 19, 50, 3)
        self.fails(BadStore("tally"), store.put, 17, 9, 1)
        self.fails(BadStore("tally"), store.put, 17, 21, 1)
        self.fails(BadStore("tally"), store.put, 19, 1, 2)
        self.fails(BadStore("tally"), store.put, 19, 19, 1)
        self.fails(BadStore("life"), store.put, 19, 99, 0)
        self.fails(NotYet(16), store.look_at, 16)
        self.fails(NotYet(FAR), store.look_at, FAR)
        self.fails(Nothing(), store.look_at, 15)
        self.fails(Nothing(), store.look_at, -19)
        self.fails(Forgotten(-20), store.look_at, -20)
        self.assertTrue(store == before)
        store.put(19, 0, 2)
        store.put(17, 10, 1)
        self.assertEqual([(look.moment, look.tally, look.life) for look in store],
                         [(16, 10, 1), (17, 10, 1), (18, 20, 1), (19, 0, 2), (20, 0, 2)])
        for wrong in OTHERS + [15, FAR ** 2, (18,), "18", Look(18, 20, 1)]:
            self.assertIs(wrong in store, False)
        self.assertIs(18 in store, True)
        one = Store(Tiers((1, 10)), 2, begin=1)
        self.assertIs(1 in one, False)
        one.put(1, 7)
        one.put(1, 7)
        self.assertEqual(one.kept(), (Look(1, 7),))
        self.fails(Unlike("look"), one.put, 1, 8)
        self.assertIs(True in one, False)

    def test_thinned_looks_play_no_part(self):
        store = Store(Tiers((1, 3), (10, 40)), 2)
        for moment in range(0, 9):
            store.pass_to(moment)
            store.put(moment, moment, 0)
        self.assertEqual([look.moment for look in store], [0, 6, 7, 8])
        store.pass_to(30)
        self.assertEqual([look.moment for look in store], [0, 8])
        store.put(30, 8, 0)
        store.put(29, 8, 0)
        self.fails(Unlike("look"), store.put, 29, 7, 0)

    def test_tiers_at_whose_ages_no_border_is_read(self):
        # Each border is read at a multiple of 10: at 3 ticks it is old enough, but no longer read at its own moment.
        store = Store(Tiers((1, 3), (10, 40)), 3)
        for moment in (0, 1, 9, 10):
            store.pass_to(moment)
            store.put(moment, moment)
        self.assertEqual([look.moment for look in store], [0, 9, 10])
        store.pass_to(12)
        self.assertEqual([look.moment for look in store], [0, 10])
        # The border 9 is read at 0 as long as it is younger than 40 ticks.
        store.pass_to(48)
        self.assertEqual([look.moment for look in store], [0, 10])
        self.assertEqual(store.look_at(9), Look(0, 0))
        store.pass_to(49)
        self.assertEqual([look.moment for look in store], [10])

    def test_blocks(self):
        store = Store(Tiers((1, 10), (5, 40)), 3)
        store.put(0, 5)
        before = store.twin()
        with store.trial() as same:
            self.assertIs(same, store)
            same.pass_to(50)
            same.put(50, 9)
            self.assertEqual(len(store), 2)
            with store.trial():
                store.pass_to(51)
            self.assertEqual(store.now, 50)
        self.assertTrue(store == before)
        with self.assertRaises(ZeroDivisionError):
            with store.trial() as same:
                same.pass_to(50)
                1 // 0
        self.assertTrue(store == before)
        with self.assertRaises(RoadError):
            with store.trial():
                store.pass_to(4)
                store.pass_to(3)
        self.assertTrue(store == before)
        later = store.trial()
        store.pass_to(1)
        with later:
            store.pass_to(9)
        self.assertEqual(store.now, 1)
        told = store.tried(work=lambda one: (one is store, one.pass_to(7), one.now))
        self.alike((told, store.now), ((True, None, 7), 1))
        self.fails(BadNumber(0), store.tried, lambda one: (one.pass_to(7), one.pass_to(0)))
        self.assertEqual(store.now, 1)

    def test_twins_and_equality(self):
        tiers = Tiers((1, 10), (5, 40))
        store = Store(tiers, 3)
        store.put(0, 5)
        twin = store.twin()
        self.assertTrue(twin == store)
        twin.pass_to(1)
        self.assertFalse(twin == store)
        self.assertEqual(store.now, 0)
        store.pass_to(1)
        self.assertTrue(twin == store)
        twin.put(1, 6)
        self.assertFalse(twin == store)
        self.assertEqual(len(store), 1)
        for other in (Store(tiers, 4), Store(Tiers((1, 10)), 3), None, 5):
            self.assertFalse(Store(tiers, 3) == other)
        # How a store came to what it keeps plays no part.
        one, other = Store(Tiers((1, 3), (10, 40)), 2), Store(Tiers((1, 3), (10, 40)), 2)
        for moment in (0, 3, 4):
            one.pass_to(moment)
            one.put(moment, moment)
        for moment in (0, 4):
            other.pass_to(moment)
            other.put(moment, moment)
        one.pass_to(20)
        other.pass_to(20)
        self.assertTrue(one == other)
        self.assertEqual(outcome(one.look_at, 10), Look(4, 4))

    def test_looks_are_papers(self):
        self.alike((Look(moment="a", tally=[1]).life, bool(Look(0, 0)), isinstance(Look(0, 0), Verdict)), (0, True, False))
        self.alike(Look(None, {}, life=(1,)).life, (1,))
        self.assertEqual(Look(1, 2, False), Look(True, 2))
        for other in (Look(1, 2, 3), Look(1, 3), Look(2, 2), (1, 2, 0), None):
            self.assertNotEqual(Look(1, 2), other)


if __name__ == "__main__":
    unittest.main()
