"""Desks, beside the functions that they ask."""

import random
import unittest

from gaugeroad.alarms import Alarm, Heard, Missed, Never, Uncovered, covers, heard, level_for, surely, tells
from gaugeroad.cases import case_above, case_below
from gaugeroad.classes import alike, rows_of
from gaugeroad.deeds import told_deed
from gaugeroad.desk import Desk
from gaugeroad.errors import (BadAlarm, BadBeginning, BadChart, BadHabit, BadLine, BadLosses, BadNumber, BadPart, BadPlay, BadRoad,
                              BadText, Endless, Forgotten, Nothing, NotYet, RoadError, TooMany, Unlike)
from gaugeroad.gaps import above, aged, below, plain_above, plain_below, plain_from
from gaugeroad.habits import Habit
from gaugeroad.holes import least_modulus, longest_sure_hole, sureness
from gaugeroad.look_gaps import weigh
from gaugeroad.looks import Looks
from gaugeroad.marks import Marks
from gaugeroad.paces import Pace
from gaugeroad.parts import Gear, Slips, Wheel
from gaugeroad.player import Player
from gaugeroad.registers import Plain
from gaugeroad.roads import Road
from gaugeroad.texts import play_text, road_text
from gaugeroad.trains import Train
from helpers import OTHERS, Case
from test_reader import ODD, at_word, number_word, numbers_place, wanted_of_part

FAR = 10 ** 30
PARTS = ("train", "pace", "looks", "habit", "register", "tiers", "width", "zoom")
LINES = ["train wheel 5", "train wheel 1 2 , gear 1 2", "train -", "train wheel 2 3 , slips 3 1", "train gear 3 2", "pace 1 3 / 4 6",
         "pace 1 1", "habit 3 0", "habit 2 0 4 0", "looks every 3 late 0 ages 0 1 losses 0 1 / 0 -",
         "looks every 2 late 1 ages 0 losses 0 -", "register plain", "register modulo 3", "register modulo 40", "register dials 4 7",
         "register restarting", "tiers none", "tiers 1 12 / 3 40", "width 1", "width 3", "width 7", "zoom 1 1", "zoom 1 2", "zoom 3 2",
         "alarm none", "alarm 2 2 1", "alarm 4 3 3", "alarm 1 1 1"]
DEEDS = ["do tick 0", "do tick 1", "do tick 3", "do tick 0", "do tick 1", "do look", "do look", "do lost", "do restart",
         "do zoom 1 3", "do scroll 2", "do alarm 1 1 1", "do alarm none"]
ASKED = ["show", "log", "above 4", "below 5", "above 0", "aged above 2 9", "aged below 3 12", "plain above", "plain below", "from above",
         "from below", "case above 4", "case below 5", "case above 0", "sure", "modulus", "longest", "covers 3", "covers 9", "heard 5 3",
         "heard 11 7", "heard 99 2", "level 5 3", "level 11 7", "tells", "surely 4", "rows", "alike wheel 5", "alike wheel 3",
         "alike wheel 5 , gear 1 1", "now", "column 0", "column 1", "rise 1", "gap 0", "gap 1", "known", "went"]
BEGINS = ["begin 0 0", "begin 0 0 / 0", "begin -5 2 / 1 / 0", "begin 3 0 / 2 / 1 at -", "begin 7 1 / 1", "begin 0 9 / 4"]


def kinds():
    return {"parts": {"train": None, "pace": None, "looks": None, "display": Plain(), "tiers": None, "width": 1, "zoom": Gear(1, 1)},
            "road": None, "alarm": None, "play": None}


class Model:
    """A desk by the words of the document, with a copy of all for each line that can be taken back."""

    def __init__(self):
        self.has, self.done = kinds(), []

    def say(self, line):
        words = line.split(" ")
        word = words[0]
        if word == "undo":
            if not self.done:
                return "nothing"
            word, self.has = self.done.pop()
            return word
        if word not in PARTS + ("alarm", "begin", "do"):
            return self.asked(word, words[1:])
        has = dict(self.has)
        if word in PARTS:
            told = wanted_of_part(words)
            if isinstance(told, RoadError):
                raise told
            name = {"habit": "looks", "register": "display"}.get(word, word)
            has["parts"] = {**has["parts"], name: told[1]}
            parts = has["parts"]
            has["road"], has["play"] = None, None
            if parts["train"] is not None and parts["pace"] is not None and parts["looks"] is not None:
                has["road"] = Road(**parts)
        elif word == "alarm":
            has["alarm"] = None if words[1] == "none" else Alarm(*map(int, words[1:]))
        elif word == "begin":
            beginnings = [Marks.read(text) if "at" in text else int(text) for text in line.split(" / ")[1:]]
            has["play"] = Player(self.there("road"), int(words[1]), *beginnings, lead=int(words[2]))
        else:
            has["play"] = self.there("play").twin()
            has["play"].do(line[3:])
        self.done.append((word, self.has))
        self.has = has
        return "ok"

    def there(self, name):
        if self.has[name] is None:
            raise Nothing()
        return self.has[name]

    def asked(self, word, words):
        side = words[0] if words and words[0] in ("above", "below") else None
        numbers = [int(one) for one in words if number_word(one) is not None]
        if word in ("log", "now", "column", "rise", "gap", "known", "went"):
            return self.of_play(word, self.there("play"), numbers)
        road = self.there("road")
        if word in ("covers", "heard", "tells", "surely"):
            return self.of_alarm(word, road, self.there("alarm"), numbers)
        hole = road.habit.hole
        answers = {"show": lambda: road_text(road).replace("\n", " ; "), "above": lambda: above(road, *numbers),
                   "below": lambda: below(road, *numbers), "aged": lambda: aged(road, side, *numbers),
                   "plain": lambda: plain_above(road) if side == "above" else plain_below(road),
                   "from": lambda: plain_from(road, side), "case": lambda: "{} {}".format(*self.case(road, side, *numbers)),
                   "sure": lambda: "sure" if sureness(road.train, road.display, road.pace, hole) else "unsure",
                   "modulus": lambda: least_modulus(road.train, road.pace, hole),
                   "longest": lambda: longest_sure_hole(road.train, road.display, road.pace),
                   "level": lambda: level_for(road, tuple(numbers)), "rows": lambda: " / ".join(map(str, rows_of(road.train))),
                   "alike": lambda: self.alike_to(road, Train.read(" ".join(words)))}
        return str(answers[word]())

    def case(self, road, side, length):
        return weigh(road, case_above(road, length) if side == "above" else case_below(road, length))

    def alike_to(self, road, train):
        told = alike(road.train, train)
        return "alike" if told else "parted " + told.word

    def of_alarm(self, word, road, alarm, numbers):
        if word == "covers":
            return "yes" if covers(road.habit, road.width, alarm.columns, *numbers) else "no"
        if word == "heard":
            names = {Heard: "heard", Missed: "missed", Uncovered: "uncovered", Never: "never"}
            return names[type(heard(road, alarm, tuple(numbers)))]
        if word == "tells":
            told = tells(road, alarm)
            return f"{told.amount} {told.span}" if told else "silent"
        return str(surely(road, alarm, *numbers).amount)

    def of_play(self, word, play, numbers):
        answers = {"log": lambda: play_text(play).replace("\n", " ; "), "now": lambda: play.now,
                   "column": lambda: play.chart()[numbers[0]], "rise": lambda: play.chart().rise(*numbers),
                   "gap": lambda: play.gap(*numbers), "known": lambda: " ".join(map(str, play.known())) or "-",
                   "went": lambda: " ".join(map(str, play.alarms())) or "-"}
        return str(answers[word]())


def outcome(work, *args):
    try:
        return work(*args)
    except RoadError as error:
        return type(error), vars(error)


class TestDesk(Case):
    def test_beside_the_functions(self):
        answered = {}
        for seed in range(400):
            dice, desk, model = random.Random(seed), Desk(), Model()
            if seed % 3:
                lines = ("habit 3 0", "train wheel 5", "pace 1 3 / 4 6", dice.choice(["register plain", "register modulo 3"]))
                desk.run(*lines)
                for line in lines:
                    model.say(line)
            for _ in range(60):
                is_played = model.has["play"] is not None and dice.random() < 0.8
                line = dice.choice(dice.choice([DEEDS, DEEDS, ASKED] if is_played else [LINES, DEEDS, ASKED, BEGINS, ["undo"]]))
                before, many = desk.road_now, len(desk)
                wanted, told = outcome(model.say, line), outcome(dice.choice([desk.say, desk]), line)
                self.assertEqual(told, wanted, line)
                self.assertNotIn("\n", str(told))
                if isinstance(told, tuple):
                    self.assertEqual(len(desk), many)
                    self.assertTrue(desk.road_now == before)
                    answered.setdefault(line.split(" ")[0], set()).add(told[0].__name__)
                else:
                    answered.setdefault(line.split(" ")[0], set()).add("answer")
                self.check(desk, model)
            self.again(desk, model)
        words = PARTS + ("alarm", "begin", "do", "undo", "show", "log", "above", "below", "aged", "plain", "from", "case", "sure", "modulus",
                         "longest", "covers", "heard", "level", "tells", "surely", "rows", "alike", "now", "column", "rise", "gap", "known",
                         "went")
        self.assertEqual(set(answered), set(words))
        for word in words:
            self.assertIn("answer", answered[word])
            if word not in PARTS + ("alarm", "undo"):
                self.assertIn("Nothing", answered[word])

    def check(self, desk, model):
        has = model.has
        self.assertEqual(len(desk), len(model.done))
        self.assertTrue(desk.road_now == has["road"] and desk.alarm_now == has["alarm"] and desk.play_now() == has["play"])

    def again(self, desk, model):
        """The desk is taken back to the beginning; the lines that stood lead another desk to an equal one."""
        while len(desk):
            self.assertFalse(desk == Desk() and len(desk) == 0)
            self.assertEqual(desk("undo"), model.say("undo"))
            self.check(desk, model)
        self.assertTrue(desk == Desk())
        self.assertEqual(desk("undo"), "nothing")

    def test_the_lines_that_stand(self):
        for seed in range(40):
            dice, desk, stood = random.Random(seed), Desk(), []
            for _ in range(60):
                line = dice.choice(dice.choice([LINES, LINES, DEEDS, BEGINS, ["undo"]]))
                told = outcome(desk, line)
                if told == "ok":
                    stood.append(line)
                elif line == "undo" and told != "nothing":
                    self.assertEqual(stood.pop().split(" ")[0], told)
            other = Desk()
            self.assertEqual(other.run(*stood), ["ok"] * len(stood))
            self.assertTrue(other == desk and len(other) == len(desk) == len(stood))

    def test_what_is_there(self):
        desk = Desk()
        self.assertIsNone(desk.road_now)
        self.assertIsNone(desk.alarm_now)
        self.assertIsNone(desk.play_now())
        desk.run("register modulo 40", "width 3", "zoom 1 2", "tiers 1 30", "alarm 2 3 1", "pace 1 3", "train wheel 5")
        self.assertIsNone(desk.road_now)
        self.assertTrue(desk.alarm_now == Alarm(2, 3, 1))
        desk("looks every 3 late 0 ages 0 losses 0 -")
        self.assertTrue(desk.road_now == Road(Train(Wheel(5)), Pace((1, 3)), Looks(3, 0), display=desk.road_now.display,
                                              tiers=desk.road_now.tiers, width=3, zoom=Gear(1, 2)))
        desk("habit 3 0")
        self.assertIsInstance(desk.road_now.looks, Habit)
        desk("begin 5 2 / 4")
        desk("alarm none")
        self.assertTrue(desk.play_now() == Player(desk.road_now, 5, 4, lead=2))
        twin = desk.play_now()
        twin.tick(3)
        self.assertEqual(desk("now"), "5")
        desk.say(line="do tick 3")
        self.assertTrue(desk.play_now() == twin)
        desk("width 3")
        self.assertIsNone(desk.play_now())
        self.assertEqual([desk("undo"), desk("now"), desk("known")], ["width", "6", "5"])
        self.assertEqual(desk("log").split(" ; ")[-4:], ["begin 5", "lead 2", "part 4", "tick 3"])

    def test_answers_of_alarms(self):
        desk = Desk()
        desk.run("train wheel 5", "pace 1 3 / 4 6", "habit 3 0", "width 6", "alarm 2 2 1")
        self.alike(desk.run("heard 11 7", "heard 13 7", "heard 6 8", "covers 7", "covers 8", "tells", "surely 4", "level 11 7"),
                   ["heard", "never", "uncovered", "yes", "no", "6 12", "2", "2"])
        self.alike(desk.run("alarm 2 3 1", "heard 11 7", "alarm 2 5 5", "tells", "heard 11 7"),
                   ["ok", "missed", "ok", "silent", "missed"])
        self.fails(Nothing(), desk, "surely 4")
        desk.run("width 1", "begin 0 0 / 4", "do alarm 1 1 1", "do tick 3", "do tick 0", "do tick 0", "do look")
        self.alike(desk.run("known", "went", "do tick 0", "went", "known", "column 0"), ["0 3", "-", "ok", "3", "0 3", "0"])
        self.alike(desk.run("rise 3", "column 2", "gap 2", "gap 0", "now", "alike wheel 3", "rows"),
                   ["1", "1", "5", "-3", "4", "parted 000", "5 at 0"])

    def test_edges_of_numbers(self):
        desk = Desk()
        desk.run("train -", "pace 1 1", "habit 1 0", "width 1000", "zoom 60 59", f"begin {-10 ** 18} 999", f"above {FAR}")
        self.assertEqual((desk.road_now.width, desk.play_now().lead, desk("now")), (1000, 999, str(-10 ** 18)))
        self.alike(desk.run("alarm 50 100000000000000000000 1", "width 1", f"begin {10 ** 18} 0"), ["ok"] * 3)
        self.fails(BadNumber(999), desk, "begin 0 999")

    def test_run_all_or_none(self):
        desk = Desk()
        desk.run("train wheel 5", "pace 1 3")
        before = len(desk)
        for lines, error in [(("habit 3 0", "above 1", "tiers 0 1"), BadLine(1)), (("habit 3 0", "begin 0 0 / 5"), BadBeginning(0)),
                             (("undo", "undo", "undo", "now"), Nothing()), (("habit 3 0", 5), BadLine(0))]:
            self.fails(error, desk.run, *lines)
            self.assertEqual(len(desk), before)
            self.assertIsNone(desk.road_now)
        self.alike(desk.run(), [])
        self.alike(desk.run("habit 3 0", "above 1", "undo", "undo"), ["ok", "10", "habit", "pace"])

    def test_trials(self):
        desk, other = Desk(), Desk()
        for one in (desk, other):
            one.run("train wheel 5", "pace 1 3", "habit 3 0", "begin 0 0 / 1")
        with desk.trial() as same_desk:
            self.assertIs(same_desk, desk)
            desk.run("do tick 3", "undo", "undo", "undo")
            with desk.trial():
                desk.run("habit 2 0", "begin 0 0 / 2", "do tick 1")
                self.assertEqual(len(desk), 5)
            self.assertEqual((len(desk), desk.road_now), (2, None))
        self.assertTrue(desk == other and len(desk) == 4)
        self.assertEqual(desk("now"), "0")

        def failing(one):
            one.run("undo", "undo", "train wheel 7")
            raise KeyError("odd")

        with self.assertRaises(KeyError):
            desk.tried(failing)
        with self.assertRaises(BadLine):
            with desk.trial():
                desk("undo")
                desk("x")
        self.assertTrue(desk == other and len(desk) == 4)
        self.alike(desk.tried(lambda one: (one("undo"), one("show"), len(one)))[::2], ("begin", 3))
        self.alike(desk.tried(work=len), 4)
        self.assertEqual([desk("undo") for _ in range(5)], ["begin", "habit", "pace", "train", "nothing"])

    def test_equality(self):
        one, other = Desk(), Desk()
        self.assertTrue(one == other)
        for line in ("train wheel 5", "pace 1 3", "habit 3 0", "begin 0 0 / 1", "alarm 2 2 1", "do tick 1"):
            one(line)
            self.assertFalse(one == other)
            other(line)
            self.assertTrue(one == other)
        one("do scroll 1")
        self.assertFalse(one == other)
        one("do scroll 0")
        self.assertTrue(one == other and len(one) != len(other))
        looks, habit = Desk(), Desk()
        looks("looks every 3 late 0 ages 0 losses 0 -")
        habit("habit 3 0")
        self.assertFalse(looks == habit)
        for wrong in OTHERS + [one.road_now]:
            self.assertFalse(one == wrong)


def wanted_words(line):
    """The place of the first word that cannot stand, None if all can, by the reads of the classes."""
    words = line.split(" ")
    word = words[0]
    natural, positive = (lambda n, _: 0 <= n <= FAR), (lambda n, _: 1 <= n <= FAR)
    numbers = {"above": [natural], "below": [natural], "column": [natural], "rise": [natural], "gap": [natural], "covers": [positive],
               "surely": [positive], "heard": [positive] * 2, "level": [positive] * 2}
    sides = {"aged": [natural] * 2, "plain": [], "from": [], "case": [natural]}
    if word in PARTS:
        told = wanted_of_part(words)
        return told if isinstance(told, int) else None
    if word in ("undo", "show", "log", "sure", "modulus", "longest", "tells", "rows", "now", "known", "went"):
        return 1 if len(words) > 1 else None
    if word in numbers:
        return numbers_place(words, *numbers[word])
    if word in sides:
        if words[1:2] not in (["above"], ["below"]):
            return 1
        place = numbers_place(words[1:], *sides[word])
        return None if place is None else place + 1
    if word == "alarm" or word == "do":
        if word == "do" and len(words) == 1:
            return 1
        text = line if word == "alarm" else " ".join(words[1:])
        try:
            told_deed(text)
        except BadText as error:
            return error.word + (word == "do")
        return None
    if word == "alike":
        told = wanted_of_part(["train", *words[1:]])
        return told if isinstance(told, int) else None
    return wanted_begin(words) if word == "begin" else 0


def wanted_begin(words):
    for at, test in ((1, lambda n: abs(n) <= 10 ** 18), (2, lambda n: 0 <= n <= 999)):
        place = at_word(words, at, test)
        if place is not None:
            return place
    at = 3
    while at < len(words):
        if words[at] != "/":
            return at
        at += 1
        place = at_word(words, at, lambda n: True)
        if place is not None:
            return place
        if words[at + 1:at + 2] == ["at"] and 1 <= int(words[at]) <= 3000:
            last = words.index("/", at) if "/" in words[at:] else len(words)
            try:
                Marks.read(" ".join(words[at:last]))
            except BadText as error:
                # A dash is the whole of what stands behind at, and places go on up to the stroke.
                return at + error.word
            at = last
        else:
            at += 1
    return None


class TestWords(Case):
    def test_lines_by_lot(self):
        seen = set()
        for seed in range(4000):
            dice, desk = random.Random(seed), Desk()
            words = dice.choice(dice.choice([LINES, DEEDS, ASKED, BEGINS, ["undo", "begin 0 0 / 9 at 0 4 / -3 / 1 at -"]])).split(" ")
            k, deed = dice.randrange(len(words)), dice.choice(["word", "put", "out", "swap", "end"])
            if deed == "word":
                words[k] = dice.choice(ODD + ["above", "tick", "wheel", str(dice.randint(0, 12))])
            elif deed == "put":
                words.insert(dice.randint(0, len(words)), dice.choice(ODD))
            elif deed == "out":
                del words[k]
            elif deed == "swap":
                other = dice.randrange(len(words))
                words[k], words[other] = words[other], words[k]
            else:
                words[k] += dice.choice(["\n", "0", " "])
            line = " ".join(words)
            place = wanted_words(line)
            if place is not None:
                seen.add((line.split(" ")[0], place))
                self.fails(BadLine(place), desk, line)
                self.assertEqual(len(desk), 0)
            else:
                self.assertNotEqual(outcome(desk, line)[0], BadLine)
        self.assertGreater(len(seen), 120)

    def test_words_that_cannot_stand(self):
        for line, place in {"": 0, " above 1": 0, "Above 1": 0, "above": 1, "above ": 1, "above -1": 1, f"above {FAR + 1}": 1, "above 1 1": 2,
                            "aged": 1, "aged left 1 1": 1, "aged above": 2, "aged above 1": 3, "aged above 1 1 1": 4, "plain": 1,
                            "plain above 1": 2, "from x": 1, "case above": 2, "case 1 above": 1, "covers 0": 1, f"covers {FAR + 1}": 1,
                            "heard 1": 2, "heard 0 1": 1, "heard 1 0": 2, "heard 1 1 1": 3, "level": 1, "tells 1": 1, "surely": 1,
                            "surely 0": 1, "rows 1": 1, "alike": 1, "alike x": 1, "alike wheel": 2, "alike wheel 5 ,": 4,
                            "alike wheel 5 , gear 2 2": 6, "column -1": 1, "width": 1, "width 0": 1, "width 1001": 1, "width 1 1": 2,
                            "zoom 2 4": 2, "tiers": 1, "tiers none none": 2, "tiers None": 1, "register modulo 1": 2, "register": 1,
                            "register plain 1": 2, "alarm 1 2": 3, "alarm 1 2 3": 3, "alarm none none": 2, "do": 1, "do undo": 1,
                            "do tick": 2, "do tick x": 2, "do look 1": 2, "begin": 1, "begin 0": 2, "begin 0 1000": 2, "begin 0 -1": 2,
                            f"begin {10 ** 18 + 1} 0": 1, "begin 0 0 4": 3, "begin 0 0 /": 4, "begin 0 0 / x": 4, "begin 0 0 / 4 /": 6,
                            "begin 0 0 / 4 4": 5, f"begin 0 0 / {10 ** 40}": 4, "begin 0 0 / 3001 at 0": 5, "begin 0 0 / 0 at 0": 5,
                            "begin 0 0 / 6 at": 6, "begin 0 0 / 6 at 6": 6, "begin 0 0 / 6 at 0 3": 4, "begin 0 0 / 6 at -": 4,
                            "begin 0 0 / 1 at - 0": 7, "begin 0 0 / 6 at 1 0": 7, "show\n": 0, "above 1\n": 1, "undo ": 1,
                            "train wheel 5\npace 1 1": 2}.items():
            self.fails(BadLine(place), Desk(), line)
            self.fails(BadLine(place), Desk().say, line)
            self.assertEqual(wanted_words(line), place)
        for wrong in OTHERS + [5, ("show",)]:
            if not isinstance(wrong, str):
                self.fails(BadLine(0), Desk(), wrong)
                self.fails(BadLine(0), Desk().run, wrong)

    def test_errors_in_their_order(self):
        desk = Desk()
        # What the read of a text raises comes ahead of what is not there.
        self.fails(BadPart("turn"), desk, "train wheel 300 200")
        self.fails(BadPart("turn"), desk, "alike wheel 300 200")
        self.fails(BadHabit(0), desk, "habit 3 1 / 3 1")
        self.fails(BadLosses(1), desk, "looks every 3 late 0 ages 0 losses 0 - / 0 -")
        self.fails(TooMany("standings", 60), desk, "looks every 3 late 2 ages 0 4 losses 0 1 / 0 -")
        for line in ASKED + BEGINS + DEEDS:
            self.fails(Nothing(), desk, line)
        desk("looks every 1 late 0 ages 0 losses 0 0")
        desk.run("train gear 3 2", "register modulo 9", "tiers 1 1")
        self.fails(Endless(), desk, "pace 1 1")
        self.fails(Nothing(), desk, "show")
        desk("habit 3 0")
        self.fails(BadRoad("fine"), desk, "pace 1 1")
        desk("train wheel 5")
        self.fails(BadRoad("keep"), desk, "pace 1 1")
        self.assertEqual(desk.run("tiers none", "pace 1 1", "above 4"), ["ok", "ok", "6"])
        self.fails(BadRoad("keep"), desk, "tiers 1 1")
        self.fails(TooMany("parts", 6), desk, "train " + " , ".join(["gear 1 2"] * 6))
        for line in ("covers 201", "heard 1 1", "tells", "surely 1"):
            self.fails(Nothing(), desk, line)
        desk("alarm 2 2 1")
        self.fails(BadNumber(201), desk, "covers 201")
        self.fails(BadNumber(201), desk, "surely 201")
        self.fails(BadAlarm("burst"), desk, "heard 1 201")
        self.fails(BadAlarm("burst"), desk, f"level {FAR} 1")
        self.fails(BadRoad("tiers"), desk, f"aged above {FAR} {FAR}")
        self.fails(TooMany("ticks", 600), desk, "case above 601")
        self.fails(Nothing(), desk, "case above 0")
        self.fails(Nothing(), desk, "now")
        self.assertEqual(desk("above " + str(FAR)), "6")
        self.fails(BadNumber(1), desk, "begin 0 1 / 0")
        self.fails(BadBeginning(0), desk, "begin 0 1")
        self.fails(BadBeginning(0), desk, "begin 0 1 / 5")
        self.fails(BadBeginning(0), desk, "begin 0 1 / 1 at -")
        self.fails(BadBeginning(1), desk, "begin 0 1 / 4 / 0")
        desk("begin 0 0 / 4")
        self.fails(BadPlay("pace"), desk, "do tick 2")
        self.fails(BadPlay("display"), desk, "do restart")
        self.fails(NotYet(0), desk, "column 0")
        self.fails(BadNumber(10 ** 9 + 1), desk, f"rise {10 ** 9 + 1}")
        desk.run("register plain", "train gear 3 2")
        self.fails(Unlike("train"), desk, "sure")
        self.fails(Unlike("train"), desk, "rows")
        self.fails(Unlike("one"), desk, "alike wheel 5")
        desk("train wheel 5")
        self.fails(Endless(), desk, "longest")


if __name__ == "__main__":
    unittest.main()
