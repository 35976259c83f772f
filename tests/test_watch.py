"""Alarms at work."""

import random
import unittest

from gaugeroad.alarms import Alarm
from gaugeroad.errors import BadAlarm, BadNumber
from gaugeroad.watch import Watch, on_after
from helpers import OTHERS, Case

FAR = 10 ** 40


class TestWatch(Case):
    def test_steps_by_the_words(self):
        for seed in range(80):
            dice = random.Random(seed)
            on = dice.randint(1, 9)
            alarm = Alarm(dice.randint(1, 4), on, dice.randint(1, on))
            watch, rows, is_on, times = Watch(alarm=alarm), [], False, 0
            self.assertEqual((watch.is_on, watch.rows_now, watch.times_on), (False, 0, 0))
            self.assertIs(on_after(alarm, []), False)
            for _ in range(30):
                rows.append(dice.choice((0, 0, 1, 2, 5)))
                together = sum(rows[-alarm.columns:])
                was_on = is_on
                is_on = together >= alarm.off if is_on else together >= alarm.on
                times += is_on and not was_on
                self.assertIs(watch.step(rows[-1]), is_on)
                self.alike((watch.is_on, watch.rows_now, watch.times_on), (is_on, together, times))
                self.assertIs(on_after(alarm, rows), is_on)
                self.assertIs(on_after(alarm=alarm, rows=tuple(rows)), is_on)

    def test_edges(self):
        watch = Watch(Alarm(1, 10 ** 20, 1))
        self.assertEqual([watch.step(rows) for rows in (10 ** 20 - 1, FAR, 1, 0, FAR)], [False, True, True, False, True])
        self.assertEqual((watch.rows_now, watch.times_on), (FAR, 2))
        watch = Watch(Alarm(50, 50))
        self.assertEqual([watch.step(1) for _ in range(51)].index(True), 49)

    def test_twins_and_equality(self):
        alarm = Alarm(3, 4, 2)
        one, other = Watch(alarm), Watch(Alarm(3, 4, 2))
        self.assertTrue(one == other)
        one.step(0)
        # The columns of a fresh watch are fewer.
        self.assertFalse(one == other)
        for rows in (9, 1, 2, 3):
            other.step(rows)
        for rows in (1, 2, 3):
            one.step(rows)
        self.assertTrue(one == other)
        self.assertNotEqual(one.times_on, 0)
        twin = one.twin()
        self.assertTrue(twin == one and twin.times_on == one.times_on)
        twin.step(0)
        self.assertFalse(twin == one)
        self.assertEqual((one.rows_now, twin.rows_now), (6, 5))
        self.assertFalse(Watch(alarm) == Watch(Alarm(3, 4, 3)))
        left, right = Watch(alarm), Watch(alarm)
        for rows in (4, 1, 1, 1):
            left.step(rows)
        for rows in (0, 1, 1, 1):
            right.step(rows)
        # One is still on, the other one never was.
        self.assertFalse(left == right)
        turned = Watch(alarm)
        for rows in (1, 1, 1):
            turned.step(rows)
        self.assertTrue(turned == right)
        for rows in [(1, 2, 1), (2, 1, 1)]:
            other = Watch(alarm)
            for row in rows:
                other.step(row)
            self.assertFalse(other == left)
        for other in OTHERS + [alarm]:
            self.assertFalse(left == other)

    def test_errors(self):
        for wrong in OTHERS + [5, (2, 3)]:
            self.fails(BadAlarm("alarm"), Watch, wrong)
            self.fails(BadAlarm("alarm"), on_after, wrong, wrong)
        watch = Watch(Alarm(2, 3))
        watch.step(2)
        for wrong in OTHERS + [-1, FAR + 1]:
            self.fails(BadNumber(wrong), watch.step, wrong)
        self.assertEqual((watch.rows_now, watch.step(1)), (2, True))
        for wrong in [None, True, 3, "3", "", {}, {3: 3}, [None], (True,), [1, -1], (FAR + 1,), ["3"], [[3]]]:
            self.fails(BadAlarm("rows"), on_after, Alarm(2, 3), wrong)


if __name__ == "__main__":
    unittest.main()
