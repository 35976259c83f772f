"""Pages of roads and of plays."""

import itertools
import random
import unittest
from math import gcd

from gaugeroad.alarms import Alarm, heard
from gaugeroad.cases import case_below
from gaugeroad.deeds import told_deed
from gaugeroad.errors import (BadBeginning, BadHabit, BadLosses, BadPart, BadPlay, BadRoad, BadText, Endless, RoadError,
                              TooMany)
from gaugeroad.gaps import above, below
from gaugeroad.habits import Habit
from gaugeroad.look_gaps import weigh
from gaugeroad.looks import Looks
from gaugeroad.losses import Losses
from gaugeroad.marks import Marks
from gaugeroad.paces import Pace
from gaugeroad.papers import paper_at_most
from gaugeroad.parts import Divider, Gear, Slips, Wheel
from gaugeroad.player import Player
from gaugeroad.reader import read_play, read_road
from gaugeroad.registers import Dials, Plain, Register, Restarting, Wrapping
from gaugeroad.roads import Road
from gaugeroad.texts import play_text, road_text
from gaugeroad.tiers import Tiers
from gaugeroad.trains import Train
from helpers import OTHERS, Case
from test_habits import some
from test_player import some_deed, some_player

TRAINS = [Train(), Train(Wheel(5)), Train(Wheel(1, 2, 3), Slips(4, lost=2)), Train(Wheel(2), Divider(3)),
          Train(Gear(2, 3), Slips(3), Slips(5, lost=3))]
LOOKS = [Habit.steady(3), Habit.missing(2, 1), Habit.loose(3, 1), Looks(3, 0), Looks(2, 0, 1, losses=Losses.runs(1, 1)),
         Looks(3, 0, 2, late=1, losses=Losses.share(1, 3))]
DISPLAYS = [Plain(), Wrapping(50), Dials(3, 4), Restarting()]
TIERS = [None, Tiers((1, 12)), Tiers((1, 10), (3, 20), (6, 60))]
ODD = ["", "x", "0", "1", "2", "-1", "7", "61", "1001", "999999999", "/", "-", ",", "none", "at", "wheel", "losses"]
HEADS = [("train",), ("pace",), ("looks", "habit"), ("register",), ("tiers",), ("width",), ("zoom",)]
READS = {"train": Train.read, "pace": Pace.read, "looks": Looks.read, "habit": Habit.read, "register": Register.read,
         "tiers": Tiers.read}


def some_road(dice):
    looks = dice.choice(LOOKS + [some(dice.random())])
    return Road(dice.choice(TRAINS), Pace((1, 4), (3, 7), (5, 10)), looks, display=dice.choice(DISPLAYS),
                tiers=dice.choice(TIERS), width=dice.randint(1, 4), zoom=dice.choice([None, Gear(2, 3), Gear(3, 1)]))


def some_play(dice):
    player = some_player(dice, some_road(dice))
    for _ in range(dice.randint(0, 12)):
        try:
            player.do(some_deed(dice, player))
        except RoadError:
            pass
    return player


def number_word(word):
    """The integer of a word as str writes it, None for any other word."""
    digits = word.removeprefix("-")
    if not digits.isdigit() or not digits.isascii() or len(digits) > 40 or str(int(word)) != word:
        return None
    return int(word)


def at_word(words, at, fits):
    """The place of a word if it is missing or none that fits."""
    if at >= len(words):
        return len(words)
    number = number_word(words[at])
    return None if number is not None and fits(number) else at


def numbers_place(words, *tests):
    """Where words behind the first one are no numbers that fit, each one behind those ahead of it; None if all are."""
    numbers = []
    for at, test in enumerate(tests):
        place = at_word(words, at + 1, lambda number, test=test: test(number, numbers))
        if place is not None:
            return place
        numbers.append(int(words[at + 1]))
    return len(tests) + 1 if len(words) > len(tests) + 1 else None


def wanted_of_part(words):
    """The place of the first word of a line of a road that cannot stand, or the error of its class, or the thing."""
    word = words[0]
    if word == "width":
        place = numbers_place(words, lambda n, _: 1 <= n <= 1000)
        return place if place is not None else ("width", int(words[1]))
    if word == "zoom":
        place = numbers_place(words, lambda n, _: 1 <= n <= 60, lambda n, ahead: 1 <= n <= 60 and gcd(n, ahead[0]) == 1)
        return place if place is not None else ("zoom", Gear(int(words[1]), int(words[2])))
    if word == "tiers" and words[1:2] == ["none"]:
        return 2 if len(words) > 2 else ("tiers", None)
    try:
        return (word, READS[word](" ".join(words[1:])) if len(words) > 1 else READS[word](None))
    except BadText as error:
        return error.word + 1
    except RoadError as error:
        return error


class Wrong(Exception):
    """A page that is refused at a line and a word, for a cause."""


def wanted_road(lines, first):
    if lines[0].split(" ") != [first]:
        raise Wrong(0, 1 if lines[0].split(" ")[0] == first else 0, None)
    parts = []
    for at, heads in enumerate(HEADS, 1):
        if at >= len(lines):
            raise Wrong(len(lines), 0, None)
        words = lines[at].split(" ")
        if words[0] not in heads:
            raise Wrong(at, 0, None)
        told = wanted_of_part(words)
        if isinstance(told, int):
            raise Wrong(at, told, None)
        if isinstance(told, RoadError):
            raise Wrong(at, 0, type(told))
        parts.append(told[1])
    try:
        return Road(*parts[:3], display=parts[3], tiers=parts[4], width=parts[5], zoom=parts[6])
    except RoadError as error:
        raise Wrong(7, 0, type(error))


def wanted_play(lines):
    road = wanted_road(lines, "play")
    told = []
    for at, (head, test) in enumerate([("begin", lambda n, _: abs(n) <= 10 ** 18), ("lead", lambda n, _: 0 <= n < road.width)], 8):
        if at >= len(lines):
            raise Wrong(len(lines), 0, None)
        words = lines[at].split(" ")
        place = 0 if words[0] != head else numbers_place(words, test)
        if place is not None:
            raise Wrong(at, place, None)
        told.append(int(words[1]))
    beginnings = []
    for at, part in enumerate(road.train.parts, 10):
        if at >= len(lines):
            raise Wrong(len(lines), 0, None)
        beginnings.append(wanted_beginning(part, at, lines[at].split(" ")))
    player = Player(road, told[0], *beginnings, lead=told[1])
    for at in range(10 + len(beginnings), len(lines)):
        try:
            told_deed(lines[at])
        except BadText as error:
            raise Wrong(at, error.word, None)
        try:
            player.do(lines[at])
        except RoadError as error:
            raise Wrong(at, 0, type(error))
    return player


def wanted_beginning(part, at, words):
    if words[0] != "part":
        raise Wrong(at, 0, None)
    if not isinstance(part, Slips):
        place = numbers_place(words, lambda n, _: part.is_beginning(n))
        if place is not None:
            raise Wrong(at, place, None)
        return int(words[1])
    try:
        marks = Marks.read(" ".join(words[1:]) if len(words) > 1 else None)
    except BadText as error:
        raise Wrong(at, error.word + 1, None)
    if not part.is_beginning(marks):
        raise Wrong(at, 0, BadBeginning)
    return marks


def changed_lines(dice, lines, near):
    """A page with one word, or one line, otherwise."""
    lines = list(lines)
    at = dice.randrange(len(lines)) if near is None else near
    words = lines[at].split(" ")
    deed = dice.choice(["word", "word", "word", "put", "out", "swap", "line", "twice", "drop", "odd"])
    k = dice.randrange(len(words))
    if deed == "word":
        words[k] = dice.choice(ODD + [str(dice.randint(0, 12))])
    elif deed == "put":
        words.insert(dice.randint(0, len(words)), dice.choice(ODD))
    elif deed == "out":
        del words[k]
    elif deed == "swap":
        other = dice.randrange(len(words))
        words[k], words[other] = words[other], words[k]
    lines[at] = " ".join(words)
    if deed == "line":
        lines.insert(dice.randint(0, len(lines)), dice.choice(["", "road", "tick 1", "part 0", "look", "zoom 1 1"]))
    elif deed == "twice":
        lines.insert(at, lines[at])
    elif deed == "drop":
        del lines[at]
    elif deed == "odd":
        lines[at] = dice.choice(["", " ", "road", "play", "tiers none", "looks every 3 late 0 ages 0 losses 0 -", "part 6 at 0 3"])
    return lines


class TestPages(Case):
    def test_there_and_back(self):
        for seed in range(60):
            dice = random.Random(seed)
            road = some_road(dice)
            page = road_text(road)
            lines = page.split("\n")
            kind = "habit" if isinstance(road.looks, Habit) else "looks"
            tiers = "none" if road.tiers is None else road.tiers
            self.alike(lines, ["road", f"train {road.train}", f"pace {road.pace}", f"{kind} {road.looks}", f"register {road.display}",
                               f"tiers {tiers}", f"width {road.width}", f"zoom {road.zoom.up} {road.zoom.down}"])
            found = read_road(text=page)
            self.assertTrue(found == road)
            self.alike(road_text(road=found), page)
            player = some_play(dice)
            page = play_text(player)
            wanted = ["play", *road_text(player.road).split("\n")[1:], f"begin {player.begin}", f"lead {player.lead}",
                      *[f"part {beginning}" for beginning in player.beginnings], *player.log]
            self.alike(page.split("\n"), wanted)
            found = read_play(text=page)
            self.assertTrue(found == player and found.log == player.log)
            self.alike(play_text(player=found), page)
            self.assertEqual(list(found.events()), list(player.events()))
            for deed in player.log[::-1]:
                self.assertEqual(found.undo(), deed)
            self.assertEqual(len(found), 0)

    def test_a_road_that_is_read_beside_the_one_that_was_made(self):
        for seed in range(20):
            road = some_road(random.Random(seed))
            found = read_road(road_text(road))
            for length in (1, 4, 9):
                for side, gap in (("above", above), ("below", below)):
                    self.assertTrue(gap(found, length) == gap(road, length))
                    self.assertEqual(paper_at_most(found, side, length), paper_at_most(road, side, length))
                case = case_below(found, length)
                self.assertEqual(case, case_below(road, length))
                self.assertTrue(weigh(found, case) == weigh(road, case))
            if isinstance(road.display, Plain) and road.tiers is None:
                told, back = (heard(one, Alarm(4, 2), (5, 3)) for one in (road, found))
                self.assertTrue(type(told) is type(back) and told == back)

    def test_roads_beside_the_reads_of_their_parts(self):
        seen = set()
        for seed in range(1500):
            dice = random.Random(seed)
            self.check_road(changed_lines(dice, road_text(some_road(dice)).split("\n"), None), seen)
        self.assertGreater(len(seen), 40)

    def check_road(self, lines, seen):
        try:
            wanted = wanted_road(lines, "road")
            if len(lines) > 8:
                raise Wrong(8, 0, None)
        except Wrong as wrong:
            self.refused(read_road, "\n".join(lines), *wrong.args)
            seen.add(wrong.args)
        else:
            self.assertTrue(read_road("\n".join(lines)) == wanted)
            self.alike(road_text(read_road("\n".join(lines))), "\n".join(lines))

    def refused(self, read, text, line, word, cause):
        with self.assertRaises(BadText) as caught:
            read(text)
        error = caught.exception
        self.assertEqual((error.line, error.word), (line, word), text)
        if cause is not None:
            self.assertIs(type(error.__cause__), cause, text)

    def test_plays_beside_the_reads_of_their_parts(self):
        seen = set()
        for seed in range(1500):
            dice = random.Random(seed)
            lines = play_text(some_play(dice)).split("\n")
            lines = changed_lines(dice, lines, dice.randrange(8, len(lines)) if dice.random() < 0.8 else None)
            try:
                wanted = wanted_play(lines)
            except Wrong as wrong:
                self.refused(read_play, "\n".join(lines), *wrong.args)
                seen.add(wrong.args)
            else:
                found = read_play("\n".join(lines))
                self.assertTrue(found == wanted and found.log == wanted.log)
                self.alike(play_text(found), "\n".join(lines))
        self.assertGreater(len(seen), 40)

    def test_what_classes_refuse(self):
        lines = road_text(Road(Train(Wheel(5)), Pace((1, 3)), Habit.steady(3), width=3)).split("\n")
        for at, line, cause in [(1, "train wheel 300 200", BadPart("turn")), (3, "habit 3 1 / 3 1", BadHabit(0)),
                                (3, "looks every 3 late 0 ages 0 losses 0 - / 0 -", BadLosses(1)),
                                (3, "looks every 3 late 2 ages 0 4 losses 0 1 / 0 -", TooMany("standings", 60)),
                                (7, None, Endless()), (7, None, TooMany("parts", 6)), (7, None, BadRoad("fine")),
                                (7, None, BadRoad("keep"))]:
            page = list(lines)
            if line is not None:
                page[at] = line
            elif isinstance(cause, Endless):
                page[3] = "looks every 1 late 0 ages 0 losses 0 0"
            elif isinstance(cause, TooMany):
                page[1] = "train " + " , ".join(["gear 1 2"] * 6)
            elif cause.part == "fine":
                page[1], page[4] = "train gear 3 2", "register modulo 9"
            else:
                page[5] = "tiers 1 1"
            with self.assertRaises(BadText) as caught:
                read_road("\n".join(page))
            error = caught.exception
            self.alike((error.line, error.word), (at, 0))
            self.assertEqual((type(error.__cause__), vars(error.__cause__)), (type(cause), vars(cause)))

    def test_beginnings_and_deeds(self):
        road = Road(Train(Wheel(5), Slips(4), Gear(2, 3)), Pace((1, 3)), Habit.steady(3), width=3)
        lines = ["play", *road_text(road).split("\n")[1:], "begin -5", "lead 2", "part 4", "part 9 at 0 4", "part 2", "tick 3"]
        self.assertTrue(read_play("\n".join(lines)) == self.played(road))
        for at, line, word, cause in [
                (8, "begin 1000000000000000001", 1, None), (9, "lead 3", 1, None), (9, "lead -1", 1, None), (9, "lead 2 0", 2, None),
                (10, "part 5", 1, None), (10, "part -1", 1, None), (10, "part 8 at 0 4", 1, None), (10, "part 3 at 0", 2, None), (10, "part", 1, None),
                (10, "tick 3", 0, None), (11, "part 4", 2, None), (11, "part 8 at 0 5 4", 5, None), (11, "part 8 at 0 4 8", 5, None),
                (11, "part 6 at -", 1, None), (11, "part 8 at 0 4", 1, None), (11, "part 1 at - -", 4, None),
                (11, "part 4 at 0 1", 0, BadBeginning(1)), (11, "part 3 at 0", 0, BadBeginning(1)), (12, "part 3", 1, None),
                (13, "part 0", 0, None), (13, "tick 4", 0, BadPlay("pace")), (13, "tick -4", 1, None), (13, "look", 0, BadPlay("early")),
                (13, "alarm 2 3", 3, None), (13, "restart", 0, BadPlay("display")), (13, "", 0, None)]:
            page = list(lines)
            page[at] = line
            with self.assertRaises(BadText) as caught:
                read_play("\n".join(page))
            error = caught.exception
            self.alike((error.line, error.word), (at, word))
            if cause is not None:
                self.assertEqual((type(error.__cause__), vars(error.__cause__)), (type(cause), vars(cause)))
        for many in range(13):
            self.refused(read_play, "\n".join(lines[:many]), many, 0, None)
        self.assertEqual(len(read_play("\n".join(lines[:13])).log), 0)

    def played(self, road):
        player = Player(road, -5, 4, Marks(9, 0, 4), 2, lead=2)
        player.tick(3)
        return player

    def test_other_values(self):
        road = Road(Train(Wheel(5)), Pace((1, 3)), Habit.steady(3))
        for wrong in OTHERS + [5, road, "road\n", "Road", "play", "road ", " road"]:
            text = isinstance(wrong, str)
            place = (1, 0) if wrong in ("road\n",) else (0, 1) if wrong == "road " else (0, 0)
            self.refused(read_road, wrong, *place, None)
            if not text:
                self.refused(read_play, wrong, 0, 0, None)
                self.fails(BadRoad("road"), road_text, wrong if not isinstance(wrong, Road) else 5)
            self.fails(BadPlay("player"), play_text, wrong)
        self.refused(read_road, road_text(road) + "\n", 8, 0, None)
        self.refused(read_road, road_text(road) + "\nzoom 1 1", 8, 0, None)
        self.refused(read_play, road_text(road), 0, 0, None)
        self.refused(read_road, road_text(road).replace("road\n", "play\n"), 0, 0, None)
        for many, line in itertools.product(range(1, 8), ("", "tick 1")):
            lines = road_text(road).split("\n")[:many]
            self.refused(read_road, "\n".join(lines), many, 0, None)
            self.refused(read_road, "\n".join([*lines, line]), many, 0, None)


if __name__ == "__main__":
    unittest.main()
