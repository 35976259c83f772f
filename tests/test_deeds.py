"""Events, and deeds told by texts."""

import unittest

from gaugeroad.alarms import Alarm
from gaugeroad.deeds import told_deed
from gaugeroad.errors import BadText
from gaugeroad.events import Event
from gaugeroad.parts import Gear
from gaugeroad.verdicts import Verdict
from helpers import OTHERS, Case

FAR = 10 ** 30


class TestEvents(Case):
    def test_papers(self):
        event = Event(moment=6, word="known", value=[3])
        self.alike((event.moment, event.word, event.value), (6, "known", [3]))
        self.assertTrue(event == Event(6, "known", [3]) and bool(event) and not isinstance(event, Verdict))
        for other in (Event(5, "known", [3]), Event(6, "look", [3]), Event(6, "known", 3), (6, "known", [3]), None):
            self.assertFalse(event == other)

    def test_texts(self):
        told = {("look", 4): "6 look", ("lost", (1, 2)): "6 lost", ("known", 3): "6 known 3", ("anew", 2): "6 anew 2",
                ("read", 0): "6 read 0", ("other", 5): "6 other"}
        for (word, value), text in told.items():
            self.assertEqual(str(Event(6, word, value)), text)
        self.assertEqual(str(Event(-3, "known", -6)), "-3 known -6")
        self.assertEqual(str(Event(None, [1], {})), "None [1]")


class TestDeeds(Case):
    def test_texts(self):
        told = {"tick 3": ("tick", 3), "tick 0": ("tick", 0), f"tick {FAR}": ("tick", FAR), "look": ("look",), "lost": ("lost",),
                "restart": ("restart",), "scroll 0": ("scroll", 0), "scroll 1000000000": ("scroll", 10 ** 9),
                "alarm none": ("alarm", None), "scroll 1": ("scroll", 1), "tick 1": ("tick", 1)}
        for text, deed in told.items():
            self.alike(told_deed(text), deed)
        for text, gear in (("zoom 1 2", Gear(1, 2)), ("zoom 60 59", Gear(60, 59)), ("zoom 1 1", Gear(1, 1))):
            word, value = told_deed(text=text)
            self.assertTrue(word == "zoom" and isinstance(value, Gear) and value == gear)
        for text, alarm in (("alarm 2 3 1", Alarm(2, 3, 1)), ("alarm 1 1 1", Alarm(1, 1)), (f"alarm 50 {10 ** 20} {10 ** 20}", Alarm(50, 10 ** 20))):
            word, value = told_deed(text)
            self.assertTrue(type(told_deed(text)) is tuple and word == "alarm" and value == alarm)

    def test_words_that_cannot_stand(self):
        told = {"": 0, " tick 3": 0, "Tick 3": 0, "tock": 0, "undo": 0, "tick": 1, "tick ": 1, "tick  3": 1, "tick -1": 1,
                "tick 03": 1, "tick +3": 1, "tick 3 ": 2, "tick 3 4": 2, f"tick {FAR + 1}": 1, f"tick {10 ** 45}": 1,
                "look 1": 1, "look ": 1, "lost lost": 1, "restart 0": 1, "zoom": 1, "zoom 1": 2, "zoom 0 1": 1, "zoom 61 1": 1,
                "zoom 1 0": 2, "zoom 1 61": 2, "zoom 2 4": 2, "zoom 4 2": 2, "zoom 2 2": 2, "zoom 1 2 3": 3, "scroll": 1,
                "scroll -1": 1, "scroll 1000000001": 1, "scroll 1 1": 2, "alarm": 1, "alarm None": 1, "alarm none 1": 2,
                "alarm 0 1 1": 1, "alarm 51 1 1": 1, "alarm 1": 2, "alarm 1 0 1": 2, f"alarm 1 {10 ** 20 + 1} 1": 2,
                "alarm 1 5": 3, "alarm 1 5 0": 3, "alarm 1 5 6": 3, "alarm 1 5 5 5": 4, "tick\n3": 0, "tick 3\n": 1,
                "look\ntick 3": 0}
        for text, word in told.items():
            self.fails(BadText(0, word), told_deed, text)
        for other in OTHERS + [5, ("tick", 3)]:
            if not isinstance(other, str):
                self.fails(BadText(0, 0), told_deed, other)


if __name__ == "__main__":
    unittest.main()
