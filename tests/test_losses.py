"""Loss rules."""

import itertools
import random
import unittest

from gaugeroad.errors import BadLosses, BadNumber, BadText, TooMany
from gaugeroad.losses import Losses
from helpers import OTHERS, Case

TWELVE = [(k + 1, None) for k in range(11)] + [(0, None)]


def texts(many):
    return ["".join(signs) for signs in itertools.product(".x", repeat=many)]


def is_let(places, text):
    """Whether some walk has these losses: each walk is tried from each place."""
    at = set(range(len(places)))
    for sign in text:
        at = {places[k][".x".index(sign)] for k in at} - {None}
    return bool(at)


def some(dice, most):
    """A loss rule with places by lot."""
    while True:
        many = dice.randint(1, most)
        places = [(dice.randrange(many), dice.choice([None, *range(many)])) for _ in range(many)]
        if {k for place in places for k in place} >= set(range(many)):
            return Losses(*places)


def runs_fit(text, most, apart):
    """By the words of `runs`: no long run of lost packets, no short one of kept ones between two of them."""
    pieces = text.split("x")
    if "x" * (most + 1) in text:
        return False
    return all(len(piece) == 0 or len(piece) >= apart for piece in pieces[1:-1])


class TestLosses(Case):
    def test_texts_are_in(self):
        dice = random.Random(1)
        for _ in range(60):
            losses = some(dice, 4)
            for text in texts(6):
                self.assertIs(text in losses, is_let(losses.places, text))
        for wrong in OTHERS[:3] + [(), [], {}, ".y", " ", "X", (".",), 5, [".", "x"]]:
            self.assertIs(wrong in Losses((0, 0)), False)
        self.assertIs("" in Losses((0, None)), True)
        self.assertIs("." * 16000 in Losses((0, None)), True)
        self.assertIs("." * 15999 + "x" in Losses((0, None)), False)

    def test_made_by_name(self):
        self.alike(Losses.none().places, ((0, None),))
        for most, apart in itertools.product(range(1, 5), range(1, 5)):
            losses = Losses.runs(most, apart)
            self.assertEqual(len(losses.places), most + apart)
            for text in texts(9):
                self.assertIs(text in losses, runs_fit(text, most, apart), (most, apart, text))
        for most, of in itertools.product(range(0, 9), range(1, 9)):
            many = len([text for text in texts(of - 1) if text.count("x") <= most])
            if many > 12:
                self.fails(TooMany("places", 12), Losses.share, most, of)
                continue
            losses = Losses.share(most=most, of=of)
            self.assertEqual(len(losses.places), many)
            for text in texts(9):
                fits = all(text[k:k + of].count("x") <= most for k in range(9))
                self.assertIs(text in losses, fits, (most, of, text))
        self.assertEqual(len(Losses.runs(most=8, apart=4).places), 12)
        self.fails(TooMany("places", 12), Losses.runs, 8, 5)
        for wrong in OTHERS + [0, 9, -1]:
            self.fails(BadNumber(wrong), Losses.runs, wrong, 0)
            self.fails(BadNumber(wrong), Losses.runs, 8, wrong)
            self.fails(BadNumber(wrong), Losses.share, 8, wrong)
            if wrong != 0 or wrong is False:
                self.fails(BadNumber(wrong), Losses.share, wrong, 0)

    def test_within(self):
        dice = random.Random(2)
        rules = [some(dice, 3) for _ in range(14)] + [Losses.none(), Losses((0, 0)), Losses.runs(1, 1)]
        sets = [{text for text in texts(12) if text in losses} for losses in rules]
        told = set()
        for one, left in zip(rules, sets):
            for other, right in zip(rules, sets):
                self.assertIs(one.within(other), left <= right)
                self.assertIs(one == other, left == right)
                told.add((left <= right, left == right))
        self.assertEqual(told, {(False, False), (True, False), (True, True)})
        self.assertTrue(Losses.share(1, 2) == Losses.runs(1, 1) == Losses((0, 1), (0, None)))
        self.assertTrue(Losses.share(1, 8).within(other=Losses.share(1, 7)))
        self.assertFalse(Losses.share(1, 7).within(Losses.share(1, 8)))
        for wrong in OTHERS + [5, ".x"]:
            self.fails(BadLosses("other"), Losses.none().within, wrong)
            self.assertFalse(Losses.none() == wrong)

    def test_both_and_one_of_both(self):
        dice = random.Random(3)
        for _ in range(60):
            one, other = some(dice, 3), some(dice, 3)
            either = one | other
            self.assertEqual(len(either.places), len(one.places) + len(other.places))
            for text in texts(5):
                self.assertIs(text in either, text in one or text in other)
            both = one & other
            ahead = [text for text in texts(10) if text in one and text in other]
            # What an endless row has stands behind something, however long: behind ten packets at least.
            ends = {text[-4:] for text in ahead}
            for text in texts(4):
                self.assertIs(text in both, text in ends, (str(one), str(other), text))
        self.assertTrue(Losses.runs(1, 2) & Losses.runs(1, 1) == Losses.runs(1, 2))

    def test_pairs_that_come_up(self):
        # Of the four pairs of places the endless walks of both go through two alone.
        one = Losses((1, None), (0, None))
        self.assertEqual(len((one & Losses.none()).places), 2)
        three = Losses((1, None), (2, None), (0, None))
        self.assertEqual(len((one & three).places), 6)
        rings = [Losses(*[((k + 1) % many, None) for k in range(many)]) for many in range(1, 8)]
        self.assertEqual(len((rings[3] & rings[2]).places), 12)
        self.fails(TooMany("places", 12), lambda: rings[4] & rings[2])
        self.assertEqual(len((rings[5] | rings[5]).places), 12)
        self.fails(TooMany("places", 12), lambda: rings[6] | rings[5])
        # The left place 0 is ahead of a row of lost packets without end, which the right one does not let.
        left, right = Losses((1, 0), (1, None)), Losses((0, 1), (0, None))
        self.assertEqual([len((left & right).places), (left & right) == Losses.none()], [1, True])
        for wrong in OTHERS + [5]:
            self.fails(BadLosses("other"), lambda: one & wrong)
            self.fails(BadLosses("other"), lambda: one | wrong)

    def test_errors_in_their_order(self):
        self.fails(BadLosses("places"), Losses)
        for wrong in OTHERS + [(0,), (0, 0, 0), (0, -1), (-1, 0), (0, 2), (2, None), (None, 0), (True, 0), (0, False), "00",
                               ("0", 0), {0: 0, 1: 1}]:
            self.fails(BadLosses(1), Losses, (0, 1), wrong)
            self.fails(BadLosses(0), Losses, wrong, wrong)
        self.fails(BadLosses(12), Losses, *TWELVE, (13, 0))
        self.fails(BadLosses("places"), Losses, *TWELVE, (12, 0))
        self.fails(BadLosses(0), Losses, (1, None), (1, None))
        self.fails(BadLosses(1), Losses, (0, 0), (0, 2), (0, 0))
        self.alike(Losses(*TWELVE).places, tuple(TWELVE))
        self.alike(Losses([0, 1], [1, None]).places, ((0, 1), (1, None)))

    def test_what_is_changed_afterwards_changes_nothing(self):
        place = [0, None]
        losses = Losses(place)
        place[1] = 0
        self.alike(losses.places, ((0, None),))

    def test_texts(self):
        dice = random.Random(4)
        for losses in [some(dice, 5) for _ in range(30)] + [Losses(*TWELVE)]:
            self.alike(Losses.read(str(losses)).places, losses.places)
        self.alike(Losses.read(text="losses 0 1 / 0 -").places, ((0, 1), (0, None)))
        for text, word in [("", 0), ("loss 0 0", 0), ("losses", 1), ("losses ", 1), ("losses 0", 2), ("losses 1 0", 1),
                           ("losses 0 1", 2), ("losses 0 x", 2), ("losses - 0", 1), ("losses 0 - 0", 3), ("losses 0 -  /", 3),
                           ("losses 0 - /", 4), ("losses 0 2 / 0 0", 2), ("losses 0 1 / 2 0", 4), ("losses 00 1 / 0 0", 1),
                           ("losses 0 1 / 0 -1", 5), ("losses 0 1 / 0 - ", 6), ("losses 3 / / /", 2), ("losses 3 3 / /", 1),
                           ("losses 2 2 / / 0", 4), ("losses 0 - 0 -", 3), (" losses 0 -", 0), ("losses 0 -\n", 2)]:
            self.fails(BadText(0, word), Losses.read, text)
        thirteen = " / ".join(["losses 12 -"] + ["12 -"] * 12)
        self.fails(BadText(0, 36), Losses.read, thirteen)
        self.fails(BadLosses(1), Losses.read, "losses 0 - / 0 0")
        for wrong in OTHERS[:3] + OTHERS[5:] + [5]:
            self.fails(BadText(0, 0), Losses.read, wrong)


if __name__ == "__main__":
    unittest.main()
