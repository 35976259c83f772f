"""Habits."""

import itertools
import random
import unittest

from gaugeroad.errors import BadHabit, BadNumber, BadText, NoState, TooMany
from gaugeroad.habits import Habit
from helpers import OTHERS, Case

NO_EDGES = OTHERS + [(1,), (1, 0, 0), (0, 0), (201, 0), (1, -1), (1, 2), (True, 0), (1, False), ("1", 0), (1, None), "10",
                     {1: 0, 2: 0}, 5]


def some(seed, states=3, length=4, edges=3):
    """A habit by lot."""
    dice = random.Random(seed)
    while True:
        many = dice.randint(1, states)
        rows = [[(dice.randint(1, length), dice.randrange(many)) for _ in range(dice.randint(1, edges))]
                for _ in range(many)]
        if {after for row in rows for _, after in row} == set(range(many)):
            return Habit(*rows)


def walks_of(habit, many):
    """The lengths of all walks of so many edges."""
    if many == 0:
        return {()}
    rows = [(edge,) for state in habit.states for edge in state]
    for _ in range(many - 1):
        rows = [(*row, edge) for row in rows for edge in habit.states[row[-1][1]]]
    return {tuple(length for length, _ in row) for row in rows}


class TestHabits(Case):
    def test_what_it_has(self):
        habit = Habit([[5, 1], (3, 0), (3, 0)], ((4, 0),))
        self.alike(habit.states, (((3, 0), (5, 1)), ((4, 0),)))
        self.alike((habit.hole, len(habit), list(habit), habit[1]), (5, 2, list(habit.states), ((4, 0),)))
        self.assertTrue(habit == Habit(((3, 0), (5, 1)), [(4, 0)]))
        self.assertFalse(habit == Habit(((3, 0), (5, 1)), [(4, 1)]))
        self.assertFalse(habit == habit.states)
        for wrong in OTHERS + [-1, 2, 10 ** 30]:
            self.fails(NoState(wrong), lambda: habit[wrong])

    def test_pieces_over_all_walks(self):
        for seed in range(40):
            habit = some(seed)
            for many in range(4):
                rows = walks_of(habit, many)
                self.alike(list(habit.pieces(many)), sorted(rows))
                for row in itertools.product(range(1, 6), repeat=many):
                    self.assertIs(row in habit, row in rows)
        habit = Habit.steady(1)
        for wrong in OTHERS[:5] + OTHERS[6:8] + [[1], (True,), (1, True), ("1",), (None,), (0,), (-1,), (1, 2), "1", 1]:
            self.assertIs(wrong in habit, False)
        self.assertIs((1,) * 6000 in habit, True)

    def test_pieces_at_their_edges(self):
        self.alike(list(Habit.steady(3).pieces(many=6)), [(3,) * 6])
        many = Habit(*[[(k + 1, k)] * 1 + [(k + 1, (k + 1) % 10)] for k in range(10)])
        self.assertEqual(len(list(many.pieces(6))), len(walks_of(many, 6)))
        full = Habit([(k, 0) for k in range(1, 11)])
        self.assertEqual(len(list(full.pieces(3))), 1000)
        self.fails(TooMany("pieces", 1000), lambda: list(full.pieces(4)))
        more = Habit([(k, 0) for k in range(1, 12)])
        self.assertEqual(len(list(more.pieces(2))), 121)
        self.fails(TooMany("pieces", 1000), lambda: list(more.pieces(3)))
        self.fails(TooMany("pieces", 1000), lambda: list(more.pieces(6)))
        for wrong in OTHERS + [-1, 7]:
            self.fails(BadNumber(wrong), lambda: list(full.pieces(wrong)))
        rows = full.pieces(1)
        self.assertEqual([next(rows), next(rows)], [(1,), (2,)])

    def test_made_by_name(self):
        for period in (1, 2, 5):
            self.alike(Habit.steady(period).states, (((period, 0),),))
            for late in range(period):
                habit = Habit.loose(period, late)
                self.assertEqual(len(habit), late + 1)
                shifts = itertools.product(range(late + 1), repeat=4)
                rows = {tuple(period + b - a for a, b in zip(row, row[1:])) for row in shifts}
                self.assertEqual(set(habit.pieces(3)), rows)
        for period, most in itertools.product((1, 4), (0, 1, 3)):
            habit = Habit.missing(period=period, most=most)
            self.alike(habit.states, (tuple((period * k, 0) for k in range(1, most + 2)),))
        self.alike((Habit.steady(period=60).hole, Habit.loose(period=60, late=16).hole), (60, 76))
        self.alike((Habit.missing(22, 8).hole, Habit.missing(50, 3).hole), (198, 200))
        self.fails(TooMany("ticks", 200), Habit.missing, 51, 3)
        self.fails(TooMany("ticks", 200), Habit.missing, 23, 8)
        for wrong in OTHERS + [0, 61, -1]:
            self.fails(BadNumber(wrong), Habit.steady, wrong)
            self.fails(BadNumber(wrong), Habit.loose, wrong, wrong)
            self.fails(BadNumber(wrong), Habit.missing, wrong, None)
        for wrong in OTHERS + [9, -1]:
            self.fails(BadNumber(wrong), Habit.missing, 60, wrong)
        for wrong in OTHERS + [17, -1]:
            self.fails(BadNumber(wrong), Habit.loose, 60, wrong)
        self.fails(BadNumber(3), Habit.loose, 3, 3)

    def test_moves(self):
        for seed in range(20):
            habit = some(seed)
            dice = random.Random(seed)
            for _ in range(10):
                state = dice.randrange(len(habit))
                choices = [dice.randint(0, 9) for _ in range(dice.randint(0, 5))]
                at, row = state, []
                for choice in choices:
                    length, at = habit.states[at][choice % len(habit.states[at])]
                    row.append(length)
                self.alike(habit.moves(state, *choices), (tuple(row), at))
        habit = Habit.missing(3, 1)
        self.alike(habit.moves(0, 10 ** 40), ((3,), 0))
        self.alike(habit.moves(0), ((), 0))
        for wrong in OTHERS + [1, -1]:
            self.fails(NoState(wrong), habit.moves, wrong, wrong)
        for wrong in OTHERS + [-1, 10 ** 40 + 1]:
            self.fails(BadNumber(wrong), habit.moves, 0, 0, wrong, None)

    def test_one_of_both(self):
        for seed in range(20):
            one, other = some(seed), some(seed + 100)
            either = one | other
            for many in (1, 2, 3):
                self.assertEqual(set(either.pieces(many)), walks_of(one, many) | walks_of(other, many))
            self.alike(either.states[:len(one)], one.states)
        for wrong in OTHERS + [5, ((1, 0),)]:
            self.fails(BadHabit("other"), lambda: one | wrong)
        thirty = Habit(*[((1, (k + 1) % 30),) for k in range(30)])
        self.assertEqual(len(thirty | thirty), 60)
        self.fails(TooMany("states", 60), lambda: thirty | thirty | Habit.steady(1))
        wide = Habit([(k, 0) for k in range(1, 151)])
        self.assertEqual(len(wide | wide), 2)
        self.fails(TooMany("edges", 300), lambda: wide | wide | Habit.steady(1))

    def test_errors_in_their_order(self):
        self.fails(BadHabit(0), Habit)
        for wrong in NO_EDGES:
            self.fails(BadHabit(1), Habit, ((1, 0), (1, 1)), [(1, 0), wrong])
        for wrong in OTHERS + ["10", 5]:
            self.fails(BadHabit(1), Habit, ((1, 0), (1, 1)), wrong, wrong)
        ring = [((1, (k + 1) % 61),) for k in range(61)]
        self.fails(BadHabit(60), Habit, *ring[:60], ())
        self.fails(TooMany("states", 60), Habit, *ring)
        self.fails(TooMany("states", 60), Habit, *[[(k, 0) for k in range(1, 20)] for _ in range(61)])
        self.fails(TooMany("edges", 300), Habit, *[[(k, 0) for k in range(1, 102)] for _ in range(3)])
        self.fails(BadHabit(1), Habit, *[[(k, 0) for k in range(1, 101)] for _ in range(3)])
        self.fails(BadHabit(1), Habit, ((1, 0),), ((1, 2),), ((1, 0),))
        full = Habit([(k, 0) for k in range(1, 101)] + [(1, 1), (1, 2)] + [(1, 0)] * 50, [(k, 0) for k in range(1, 100)],
                     [(k, 0) for k in range(1, 100)])
        self.assertEqual(sum(len(row) for row in full), 300)
        self.assertEqual(Habit(((200, 0),)).hole, 200)

    def test_what_is_changed_afterwards_changes_nothing(self):
        edge, state = [1, 0], []
        state.append(edge)
        habit = Habit(state)
        edge[0] = 7
        state.append((2, 0))
        self.alike((habit.states, habit.hole), ((((1, 0),),), 1))

    def test_texts(self):
        for seed in range(30):
            habit = some(seed, states=5)
            self.assertEqual(Habit.read(str(habit)), habit)
        self.alike(Habit.read(text="3 0 5 1 / 5 1").states, (((3, 0), (5, 1)), ((5, 1),)))
        for text, word in [("", 0), ("3", 1), ("3 1", 1), ("3 0 /", 3), ("3 0 / 5", 4), ("3 0 / 5 2", 4), ("0 0", 0),
                           ("201 0", 0), ("3 0 3 0", 3), ("3 1 3 0 / 3 0", 3), ("3 0 2 0", 2), ("3 0 2 9", 2),
                           ("3 0 3", 3), ("1 -1", 1), ("1 0 1 0", 3), ("3 0 5 1", 3), ("3 -1", 1), ("3 0  / 3 0", 2), ("/ 3 0", 0), ("3 / 3 0", 1),
                           ("3 0 x", 2), ("03 0", 0), ("3 0 ", 2), ("3 2 / 3 0 / ", 6), ("3 0 4 0 4 0", 5)]:
            self.fails(BadText(0, word), Habit.read, text)
        self.fails(BadHabit(1), Habit.read, "3 0 / 5 0")
        ring = " / ".join(f"1 {(k + 1) % 60}" for k in range(60))
        self.assertEqual(len(Habit.read(ring)), 60)
        self.fails(BadText(0, 179), Habit.read, ring + " / 1 0")
        edges = " / ".join([" ".join(f"{k} {state}" for k in range(1, 151)) for state in (1, 0)])
        self.assertEqual(sum(len(row) for row in Habit.read(edges)), 300)
        self.fails(BadText(0, 601), Habit.read, edges + " 151 0")
        self.fails(BadText(0, 602), Habit.read, edges + " / 1 0")
        for wrong in OTHERS[:3] + OTHERS[5:] + [5]:
            self.fails(BadText(0, 0), Habit.read, wrong)


if __name__ == "__main__":
    unittest.main()
