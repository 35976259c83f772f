"""Growths."""

import random
import unittest
from math import lcm

from gaugeroad.errors import BadGrowth, BadNumber, BadText, Endless, TooMany
from gaugeroad.growths import Growth
from helpers import OTHERS, Case

FAR = 10 ** 40


def value(head, gains, n):
    """The value at n, step by step."""
    found = head[min(n, len(head) - 1)]
    for k in range(n - len(head) + 1):
        found += gains[k % len(gains)]
    return found


def row(growth, many):
    return list(growth.row(0, many))


def some(seed, rising=False):
    dice = random.Random(seed)
    low = 0 if rising else -3
    head = [dice.randint(low, 4)]
    for _ in range(dice.randint(0, 4)):
        head.append(head[-1] + dice.randint(low, 4))
    gains = [dice.randint(low, 3) for _ in range(dice.choice((1, 1, 2, 3, 4, 6)))]
    return Growth(head, gains)


class TestGrowths(Case):
    def test_values(self):
        for seed in range(200):
            dice = random.Random(seed)
            head = [dice.randint(-2, 2) for _ in range(dice.randint(1, 6))]
            gains = [dice.randint(-2, 2) for _ in range(dice.randint(1, 6))]
            growth = Growth(head, tuple(gains))
            wanted = [value(head, gains, n) for n in range(40)]
            self.assertEqual(row(growth, 40), wanted)
            self.assertEqual([growth(n) for n in range(40)], wanted)
            self.assertEqual([growth[n] for n in range(40)], wanted)
            self.assertEqual(growth.row(3, 9), tuple(wanted[3:9]))
            self.assertEqual(growth.row(7, 7), ())
            self.assertEqual(str(growth), " ".join([str(k) for k in growth.head] + ["then"]
                                                   + [str(k) for k in growth.gains]))
            self.assertEqual(Growth.read(str(growth)), growth)

    def test_normal_form(self):
        for seed in range(300):
            dice = random.Random(seed)
            head = [dice.randint(0, 1) for _ in range(dice.randint(1, 5))]
            gains = [dice.randint(0, 1) for _ in range(dice.randint(1, 6))]
            growth = Growth(head, gains)
            rows = [value(head, gains, n) for n in range(60)]
            steps = [rows[n] - rows[n - 1] for n in range(1, 60)]
            fewest = min(p for p in range(1, 13) if all(steps[n] == steps[n + p] for n in range(20, 47)))
            begin = min(n for n in range(59) if all(steps[k] == steps[k + fewest] for k in range(n, 59 - fewest)))
            self.assertEqual(growth.head, tuple(rows[:begin + 1]))
            self.assertEqual(growth.gains, tuple(steps[begin:begin + fewest]))
        self.assertEqual(Growth([0, 1, 2, 3], [1, 1]).head, (0,))
        self.assertEqual(Growth((0,)), Growth((0, 0), (0, 0)))
        self.assertEqual(Growth(head=[5]), Growth.constant(5))
        self.assertNotEqual(Growth((0,)), Growth((1,)))
        self.assertNotEqual(Growth((0,)), Growth((0,), (1,)))
        for other in OTHERS + [0]:
            self.assertFalse(Growth((0,)) == other)

    def test_wrong_heads_and_gains(self):
        wrong = [None, True, "3", "", (), [], {}, {3: 3}, 3, (True,), [1, None], ("1",), [[1]], [0] * 5001]
        for head in wrong:
            self.fails(BadGrowth("head"), Growth, head, None)
        for gains in wrong:
            self.fails(BadGrowth("gains"), Growth, (0,), gains)
        most = Growth([k * k for k in range(5000)], [k * k for k in range(5000)])
        self.assertEqual((len(most.head), len(most.gains), Growth.MOST), (5000, 5000, 5000))

    def test_arguments_are_kept_apart(self):
        head, gains = [0, 5], [1, 2]
        growth = Growth(head, gains)
        head[0], gains[0] = 9, 9
        self.assertEqual((growth.head, growth.gains), ((0, 5), (1, 2)))
        with self.assertRaises(TypeError):
            list(growth)

    def test_numbers(self):
        growth = Growth((1, 2), (1, 0))
        for wrong in OTHERS + [-1, FAR + 1]:
            self.fails(BadNumber(wrong), growth, wrong)
            self.fails(BadNumber(wrong), lambda n: growth[n], wrong)
            self.fails(BadNumber(wrong), growth.row, wrong, wrong)
        for wrong in OTHERS + [4, 5006]:
            self.fails(BadNumber(wrong), growth.row, 5, wrong)
        self.assertEqual(len(growth.row(5, 5005)), 5000)
        self.assertEqual(len(growth.row(FAR, FAR + 5000)), 5000)
        self.assertEqual(growth.row(begin=0, end=2), (1, 2))
        self.assertEqual(growth(FAR), growth[FAR])
        self.assertEqual(growth(n=FAR), 2 + FAR // 2)
        for wrong in OTHERS + [FAR + 1, -FAR - 1]:
            self.fails(BadNumber(wrong), growth.first_above, wrong)
            self.fails(BadNumber(wrong), growth.last_up_to, wrong)
            self.fails(BadNumber(wrong), Growth.constant, wrong)
            self.fails(BadNumber(wrong), Growth.ramp, wrong, None)
            self.fails(BadNumber(wrong), Growth.ramp, 1, wrong)
        for wrong in OTHERS + [10 ** 12 + 1, -10 ** 12 - 1, growth]:
            self.fails(BadNumber(wrong), lambda k: growth * k, wrong)
            if wrong is not growth:
                self.fails(BadNumber(wrong), lambda k: k * growth, wrong)
        for wrong in OTHERS + [-1, 10 ** 12 + 1]:
            self.fails(BadNumber(wrong), Growth.geared, wrong, None, None)
            self.fails(BadNumber(wrong), Growth.geared, 1, 1, wrong)
        for wrong in OTHERS + [0, 5001]:
            self.fails(BadNumber(wrong), Growth.geared, 1, wrong, None)

    def test_made_ones(self):
        for up in range(8):
            for down in range(1, 8):
                for rest in range(10):
                    made = Growth.geared(up, down, rest)
                    self.assertEqual(row(made, 30), [(up * n + rest) // down for n in range(30)])
                    self.assertEqual(len(made.head), 1)
        far = Growth.geared(10 ** 12, 5000, 10 ** 12)
        self.assertEqual(far(10 ** 30 + 1), (10 ** 12 * (10 ** 30 + 1) + 10 ** 12) // 5000)
        self.assertEqual(row(Growth.ramp(-3, begin=7), 4), [7, 4, 1, -2])
        self.assertEqual(row(Growth.ramp(gain=2), 4), [0, 2, 4, 6])
        self.assertEqual(str(Growth.constant(value=-FAR)), f"{-FAR} then 0")
        self.assertEqual(Growth.geared(3, 4), Growth.geared(up=3, down=4, rest=0))

    def test_signs_value_by_value(self):
        for seed in range(400):
            one, other = some(seed), some(-seed - 1)
            a, b = row(one, 60), row(other, 60)
            self.assertEqual(row(one + other, 60), [x + y for x, y in zip(a, b)])
            self.assertEqual(row(one - other, 60), [x - y for x, y in zip(a, b)])
            self.assertEqual(row(one | other, 60), [max(x, y) for x, y in zip(a, b)])
            self.assertEqual(row(one & other, 60), [min(x, y) for x, y in zip(a, b)])
            self.assertEqual(row(-one, 60), [-x for x in a])
            for k in (-3, 0, 1, 10 ** 12, -10 ** 12):
                self.assertEqual(row(k * one, 60), [k * x for x in a])
                self.assertEqual(one * k, k * one)
            far = 10 ** 20 + seed
            self.assertEqual((one | other)(far), max(one(far), other(far)))
            self.assertEqual((one & other)(far), min(one(far), other(far)))

    def test_after_value_by_value(self):
        for seed in range(300):
            one, other = some(seed), some(seed + 1000, rising=True)
            if other.head[0] < 0:
                self.fails(BadGrowth("other"), one.after, other)
                continue
            wanted = [one(other(n)) for n in range(80)]
            self.assertEqual(row(one.after(other), 80), wanted)
            far = 10 ** 20 + seed
            self.assertEqual(one.after(other=other)(far), one(other(far)))

    def test_passing(self):
        for seed in range(500):
            one, other = some(seed), some(seed + 5000)
            a, b = row(one, 400), row(other, 400)
            wanted = next((n for n in range(400) if a[n] > b[n]), None)
            self.assertEqual(one.passes(other), wanted)
            self.assertIs(one.at_most(other), wanted is None)
            self.assertIs(one.is_rising, all(x <= y for x, y in zip(a, a[1:])))
            for k in (-40, -3, 0, 2, 7, 40):
                self.assertEqual(one.first_above(k), next((n for n in range(400) if a[n] > k), None))
                last = max([n for n in range(400) if a[n] <= k], default=None)
                if last is not None and last > 300:
                    self.fails(Endless(), one.last_up_to, k)
                else:
                    self.assertEqual(one.last_up_to(k), last)
        slow, fast = Growth.ramp(1, FAR), Growth.ramp(2)
        self.assertEqual(fast.passes(slow), FAR + 1)
        self.assertEqual(Growth((0, 9, 0), (0, 1)).first_above(FAR), 2 * FAR + 4)
        self.assertEqual(Growth((0, 9, 0), (0, 1)).last_up_to(FAR), 2 * FAR + 3)

    def test_others_that_are_no_growths(self):
        one = Growth((0, 1), (1, 2))
        works = [lambda x: one + x, lambda x: one - x, lambda x: one | x, lambda x: one & x, one.after, one.passes,
                 one.at_most]
        for wrong in OTHERS + [7]:
            for work in works:
                self.fails(BadGrowth("other"), work, wrong)
        for falling in (Growth((-1,)), Growth((1, 0)), Growth((0,), (1, -1)), Growth((5,), (0, 0, -1))):
            self.fails(BadGrowth("other"), one.after, falling)

    def test_too_many_gains(self):
        def one_in(many):
            return Growth((0,), [1] + [0] * (many - 1))
        for a, b in [(4999, 2), (71, 73), (70, 71), (50, 100), (5000, 2500), (68, 73), (5000, 3)]:
            left, right = one_in(a), one_in(b)
            works = [lambda: left + right, lambda: left - right, lambda: left | right, lambda: left & right,
                     lambda: left.passes(right), lambda: left.at_most(right)]
            for work in works:
                if lcm(a, b) > 5000:
                    self.fails(TooMany("values", 5000), work)
                else:
                    work()
        # Behind 71 steps the other one has grown by 1: the round is 71 times as long.
        self.fails(TooMany("values", 5000), one_in(71).after, one_in(71))
        self.assertEqual(len(one_in(70).after(one_in(71)).gains), 4970)
        self.assertEqual(len(one_in(71).after(71 * one_in(71)).gains), 71)
        self.assertEqual(len(one_in(50).after(one_in(100)).gains), 5000)
        self.assertEqual(one_in(4999).after(Growth((5, 6))), Growth((1,)))
        self.assertEqual(one_in(4999).after(Growth((0, 4999))), Growth((0, 1)))
        self.fails(BadGrowth("other"), one_in(5000).after, Growth((1, 0), [0, 1, 1] * 1000 + [1]))

    def test_too_long_heads(self):
        for gap, fits in [(4998, True), (4999, False)]:
            # The flat one leads up to n = gap; so the head has gap + 2 values.
            flat, ramp = Growth.constant(gap + 1), Growth.ramp(1)
            if fits:
                self.assertEqual(len((flat | ramp).head), gap + 2)
                self.assertEqual((-flat) & (-ramp), -(flat | ramp))
                self.assertEqual(len((flat & ramp).head), gap + 2)
            else:
                self.fails(TooMany("values", 5000), lambda: flat | ramp)
                self.fails(TooMany("values", 5000), lambda: ramp & flat)
        self.fails(TooMany("values", 5000), lambda: Growth.constant(FAR) | Growth.ramp(1))
        self.assertEqual(Growth.constant(-FAR) | Growth.ramp(1), Growth.ramp(1))
        self.assertEqual(Growth((FAR, 0), (1,)) | Growth((0,), (1,)), Growth((FAR, 1), (1,)))

    def test_too_late_heads_of_after(self):
        late = Growth([k * k for k in range(5000)])
        self.assertEqual(len(late.after(Growth.ramp(1)).head), 5000)
        self.fails(TooMany("values", 5000), late.after, Growth((0, 0), (1,)))
        self.fails(TooMany("values", 5000), late.after, Growth((0,), (1, 0)))
        self.assertEqual(late.after(Growth((7,))), Growth.constant(49))
        two = Growth((0, 1, 5))
        slow = Growth((0,), [0] * 4998 + [2])
        self.assertEqual(slow(4999), 2)
        self.assertEqual(len(two.after(slow).head), 5000)
        self.fails(TooMany("values", 5000), two.after, Growth((0,), [0] * 4999 + [2]))

    def test_texts(self):
        for wrong in OTHERS:
            if not isinstance(wrong, str):
                self.fails(BadText(0, 0), Growth.read, wrong)
        told = [("", 0), ("then", 0), ("1", 1), ("1 then", 2), ("1 2 x", 2), ("1 then then", 2), ("1 then 2 then", 3),
                ("01 then 1", 0), ("1 then +1", 2), ("1 then 1 ", 3), ("1  then 1", 1), ("9" * 41 + " then 1", 0),
                ("1 then " + "9" * 41, 2), ("-0 then 1", 0), ("1 Then 1", 1),
                ("1 then 2 2", 0), ("1 2 then 1", 0), ("0 then 0 0", 0)]
        for text, word in told:
            self.fails(BadText(0, word), Growth.read, text)
        heads = " ".join(str(k * k) for k in range(5000))
        self.assertEqual(len(Growth.read(heads + " then 7").head), 5000)
        self.assertEqual(len(Growth.read("0 then " + heads).gains), 5000)
        self.fails(BadText(0, 5000), Growth.read, heads + " 5 then 7")
        self.fails(BadText(0, 5000), Growth.read, heads + " x")
        self.fails(BadText(0, 5000), Growth.read, heads)
        self.fails(BadText(0, 5002), Growth.read, "0 then " + heads + " 5")
        self.assertEqual(str(Growth.read("-" + "9" * 40 + " then 0")), "-" + "9" * 40 + " then 0")


if __name__ == "__main__":
    unittest.main()
