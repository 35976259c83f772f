"""The errors and the base of verdicts."""

import unittest

from gaugeroad import errors
from gaugeroad.errors import BadText, Endless, Nothing, RoadError, TooMany
from gaugeroad.verdicts import Verdict
from helpers import Case

TOLD = """BadNumber(value), BadRatio(value), BadGrowth(part), BadMarks(part), BadPart(part), BadTrain(at),
BadBeginning(at), BadPace(at), BadHistory(at), BadRegister(part), BadReading(at), BadHabit(at), BadLooks(part),
BadLosses(part), BadTiers(at), BadStore(part), BadChart(part), BadAlarm(part), BadRoad(part), BadCase(part),
BadPlay(part), BadShelf(part), BadWish(part), BadName(value), NoName(name), NoState(at), NoPart(at),
NotYet(moment), Forgotten(moment), Broken(moment), Unlike(part), BadLine(word), BadText(line, word),
TooMany(what, limit), Nothing(), Endless()"""


def told_errors():
    for told in TOLD.replace("\n", " ").split("), "):
        name, _, names = told.strip().rstrip(")").partition("(")
        yield name, [word for word in names.split(", ") if word]


class TestErrors(Case):
    def test_all_are_there_directly_below_the_base(self):
        self.assertEqual(RoadError.__bases__, (ValueError,))
        found = {name for name, _ in told_errors()}
        self.assertEqual(len(found), 36)
        for name in found:
            self.assertEqual(getattr(errors, name).__bases__, (RoadError,), name)
            self.assertEqual(getattr(errors, name).__module__, "gaugeroad.errors")

    def test_they_keep_their_very_arguments(self):
        for name, names in told_errors():
            made = getattr(errors, name)
            values = [["any", object] for _ in names]
            by_place, by_name = made(*values), made(**dict(zip(names, values)))
            for word, value in zip(names, values):
                self.assertIs(getattr(by_place, word), value)
                self.assertIs(getattr(by_name, word), value)
            self.assertEqual(sorted(vars(by_place)), sorted(names))
            for wrong in (len(names) + 1, len(names) - 1):
                if wrong >= 0 and names:
                    with self.assertRaises(TypeError):
                        made(*range(wrong))

    def test_errors_equal_themselves_alone(self):
        self.assertNotEqual(BadText(0, 1), BadText(0, 1))
        one = TooMany("ticks", 1)
        self.assertEqual(one, one)
        self.assertEqual([vars(Nothing()), vars(Endless())], [{}, {}])

    def test_verdict_is_a_plain_base(self):
        self.assertEqual(Verdict.__bases__, (object,))


if __name__ == "__main__":
    unittest.main()
