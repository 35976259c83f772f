"""Charts over live stores, and their drawings."""

import random
import unittest

from gaugeroad.charts import Chart
from gaugeroad.drawings import drawn
from gaugeroad.errors import BadChart, BadNumber, Broken, Forgotten, Nothing, NotYet, RoadError, TooMany
from gaugeroad.parts import Divider, Gear, Wheel
from gaugeroad.stores import Store
from gaugeroad.tiers import Tiers
from helpers import OTHERS, Case
from test_lines import outcome
from test_stores import play
from test_tiers import some

FAR = 10 ** 20


def column(chart, keeper, first, after, gear, scroll):
    """What a stretch tells by the words of the document, or the word of what bars it."""
    told = []
    for k in (first, after):
        look = keeper.read(chart.begin + k * chart.width)
        if isinstance(look, str):
            return look
        told.append(look)
    if told[0].life != told[1].life:
        return "Broken"
    rises = [(gear.up * look.tally + scroll) // gear.down for look in told]
    return rises[1] - rises[0]


WORDS = {"NotYet": "later", "Forgotten": "old", "Nothing": "none", "Broken": "broken"}


class TestCharts(Case):
    def test_beside_a_store_that_keeps_every_look(self):
        words = set()
        for seed in range(60):
            dice = random.Random(seed)
            tiers = some(dice)
            if tiers.oldest < 1:
                continue
            store, keeper = play(dice, tiers, dice.randint(1, min(5, tiers.oldest)), 0, 20, lambda *_: None)
            gear, scroll = Gear(dice.randint(1, 4), dice.randint(1, 4)), dice.randint(0, 5)
            chart = Chart(store, dice.randint(-10, 10), dice.randint(1, 6), gear, scroll)
            last = (keeper.now - chart.begin) // chart.width + 2
            for k in range(0, max(2, last)):
                border = chart.begin + k * chart.width
                self.alike(chart.border(k), border)
                look = keeper.read(border)
                told = outcome(chart.rise, k)
                if isinstance(look, str):
                    self.assertEqual(told[0], look)
                else:
                    self.alike(told, (gear.up * look.tally + scroll) // gear.down)
                wanted = column(chart, keeper, k, k + 1, gear, scroll)
                told = outcome(lambda: chart[k])
                words.add(wanted if isinstance(wanted, str) else "number")
                self.assertEqual(told[0] if isinstance(wanted, str) else told, wanted)
                for after in (k, k + 1, k + 3):
                    wanted = column(chart, keeper, k, after, gear, scroll)
                    told = outcome(chart.across, k, after)
                    self.assertEqual(told[0] if isinstance(wanted, str) else told, wanted)
                    row = [column(chart, keeper, at, at + 1, gear, scroll) for at in range(k, after)]
                    barred = [one for one in row if isinstance(one, str)]
                    told = outcome(chart.row, k, after)
                    self.assertEqual(told[0] if barred else told, barred[0] if barred else tuple(row))
            newest = max([k for k in range(max(0, last)) if outcome(chart.rise, k + 1) != ("NotYet",
                                                                                         (chart.border(k + 1),))],
                         default=-1)
            self.alike(chart.newest, newest)
            row = [column(chart, keeper, k, k + 1, gear, scroll) for k in range(newest + 1)]
            self.alike(list(chart.walk()), [(k, None if isinstance(one, str) else one) for k, one in enumerate(row)])
            self.alike(list(chart.walk(first=3)), list(chart.walk())[3:])
            lines = [f"{k} {WORDS.get(one, one)}" for k, one in enumerate(row)]
            self.alike([" ".join(line.split(" ")[:2]) for line in drawn(chart, 0, newest + 1)], lines)
        self.assertEqual(words, {"NotYet", "Forgotten", "Nothing", "Broken", "number"})

    def test_which_error_comes_first(self):
        store = Store(Tiers((1, 10)), 2)
        for moment, tally, life in [(5, 3, 0), (8, 4, 1), (9, 5, 1)]:
            store.pass_to(moment)
            store.put(moment, tally, life)
        chart = Chart(store, 3, 2)
        self.fails(Nothing(), lambda: chart[0])
        self.fails(Nothing(), chart.across, 0, 9)
        self.fails(NotYet(9), lambda: chart[2])
        store.pass_to(12)
        self.fails(Broken(9), lambda: chart[2])
        self.fails(Broken(9), chart.across, 1, 3)
        self.fails(Broken(9), chart.row, 1, 6)
        self.alike((chart[1], chart.across(1, 1), chart.row(2, 2), chart.row(9, 9), chart.newest), (0, 0, (), (), 2))
        self.fails(NotYet(21), chart.across, 9, 9)
        store.pass_to(14)
        self.fails(Forgotten(3), lambda: chart[0])
        self.fails(Forgotten(3), chart.across, 0, 9)
        self.alike(list(chart.walk()), [(0, None), (1, 0), (2, None), (3, 0)])
        self.alike(drawn(chart, first=0, after=6), ["0 old", "1 0", "2 broken", "3 0", "4 later", "5 later"])
        self.alike(drawn(Chart(Store(Tiers((1, 9)), 1, 5), 2, 1), 0, 2), ["0 none", "1 none"])

    def test_drawn_signs(self):
        store = Store(Tiers((1, 100)), 1)
        for moment, tally in enumerate([0, 1, 40, 81, 100081, 100081, 100121]):
            store.pass_to(moment)
            store.put(moment, tally)
        store.pass_to(7)
        self.alike(drawn(chart=Chart(store, 0, 1), first=5, after=7), ["5 40 " + "#" * 40, "6 later"])
        self.alike(drawn(chart=Chart(store, 0, 1), first=0, after=5),
                   ["0 1 #", "1 39 " + "#" * 39, "2 41 " + "#" * 40 + "+", "3 100000 " + "#" * 40 + "+", "4 0"])
        self.alike(drawn(Chart(store, 1, 3, Gear(1, 2), 1), 0, 1), ["0 50040 " + "#" * 40 + "+"])
        self.alike(drawn(Chart(store, 1, 1, Gear(1, 1)), 0, 1), ["0 39 " + "#" * 39])
        self.alike(drawn(Chart(store, 1, 1, scroll=7), 3, 3), [])

    def test_zoom_and_scroll_are_set(self):
        store = Store(Tiers((1, 100)), 1)
        chart = Chart(store=store, begin=-4, width=3, zoom=None, scroll=0)
        self.assertIs(chart.store, store)
        self.alike((chart.begin, chart.width, chart.scroll), (-4, 3, 0))
        self.assertTrue(chart.zoom == Gear(1, 1))
        chart.zoom, chart.scroll = Divider(4), 10 ** 9
        self.assertTrue(chart.zoom == Gear(1, 4))
        self.assertIsNone(chart.change("zoom", Gear(4, 6)))
        self.assertIsNone(chart.change(name="scroll", value=3))
        self.alike((str(chart.zoom), chart.scroll), ("gear 2 3", 3))

        def set_zoom(value):
            chart.zoom = value

        def set_scroll(value):
            chart.scroll = value

        for wrong in OTHERS + [5, Wheel(3)]:
            self.fails(BadChart("zoom"), set_zoom, wrong)
            self.fails(BadChart("zoom"), chart.change, "zoom", wrong)
            self.fails(BadChart("name"), chart.change, wrong, wrong)
        for wrong in OTHERS + [-1, 10 ** 9 + 1]:
            self.fails(BadNumber(wrong), set_scroll, wrong)
            self.fails(BadNumber(wrong), chart.change, "scroll", wrong)
        for wrong in ("zoo", "width", "Zoom", " scroll", 5):
            self.fails(BadChart("name"), chart.change, wrong, Gear(1, 1))
        self.alike((str(chart.zoom), chart.scroll), ("gear 2 3", 3))

    def test_edges(self):
        store = Store(Tiers((1, 10 ** 9)), 1)
        store.put(0, 0)
        store.pass_to(10 ** 9 + 2)
        store.put(10 ** 9 + 2, 10 ** 40)
        store.pass_to(10 ** 9 + 5)
        chart = Chart(store, 3, 1, Gear(60, 1), 10 ** 9)
        self.alike((chart.newest, chart.border(10 ** 9)), (10 ** 9, 10 ** 9 + 3))
        self.alike(list(chart.walk(10 ** 9 - 2)), [(10 ** 9 - 2, 60 * 10 ** 40), (10 ** 9 - 1, 0), (10 ** 9, 0)])
        self.alike((chart[10 ** 9], chart.rise(10 ** 9)), (0, 60 * 10 ** 40 + 10 ** 9))
        self.alike(chart.across(10, 10 ** 9), 60 * 10 ** 40)
        self.alike(len(chart.row(first=10 ** 9 - 1000, after=10 ** 9)), 1000)
        self.fails(TooMany("columns", 1000), chart.row, 10 ** 9 - 1001, 10 ** 9)
        self.fails(TooMany("columns", 1000), chart.row, 0, 1001)
        self.fails(TooMany("columns", 1000), drawn, chart, 0, 1001)
        self.alike(len(drawn(chart, 5, 1005)), 1000)
        far = Chart(store, -FAR, 10 ** 6)
        self.alike((far.newest, far.border(10 ** 9)), (10 ** 9, 10 ** 15 - FAR))
        self.alike(list(far.walk(10 ** 9)), [(10 ** 9, None)])
        self.alike((Chart(store, FAR, 1).newest, list(Chart(store, FAR, 1).walk())), (-1, []))
        for wrong in OTHERS + [-1, 10 ** 9 + 1]:
            self.fails(BadNumber(wrong), chart.border, wrong)
            self.fails(BadNumber(wrong), chart.rise, wrong)
            self.fails(BadNumber(wrong), lambda: chart[wrong])
            self.fails(BadNumber(wrong), chart.across, wrong, wrong)
            self.fails(BadNumber(wrong), chart.row, wrong, wrong)
            self.fails(BadNumber(wrong), drawn, chart, wrong, wrong)
            self.fails(BadNumber(wrong), lambda: list(chart.walk(wrong)))
        for wrong in OTHERS + [4, 10 ** 9 + 1]:
            self.fails(BadNumber(wrong), chart.across, 5, wrong)
            self.fails(BadNumber(wrong), chart.row, 5, wrong)
            self.fails(BadNumber(wrong), drawn, chart, 5, wrong)
        with self.assertRaises(TypeError):
            list(chart)
        with self.assertRaises(TypeError):
            5 in chart

    def test_errors_in_their_order(self):
        store = Store(Tiers((1, 100)), 1)
        for wrong in OTHERS + [5, Tiers((1, 100))]:
            self.fails(BadChart("store"), Chart, wrong, wrong, wrong, 5, None)
            self.fails(BadChart("chart"), drawn, wrong, wrong, wrong)
        for wrong in OTHERS + [FAR + 1, -FAR - 1]:
            self.fails(BadNumber(wrong), Chart, store, wrong, None, 5, None)
        for wrong in OTHERS + [0, -1, 10 ** 6 + 1]:
            self.fails(BadNumber(wrong), Chart, store, FAR, wrong, 5, None)
        for wrong in OTHERS[1:] + [5, Wheel(3)]:
            self.fails(BadChart("zoom"), Chart, store, FAR, 10 ** 6, wrong, None)
        for wrong in OTHERS + [-1, 10 ** 9 + 1]:
            self.fails(BadNumber(wrong), Chart, store, 0, 1, None, wrong)

    def test_a_chart_is_live_and_like_itself_alone(self):
        store = Store(Tiers((1, 100)), 1)
        store.put(0, 3)
        chart = Chart(store, 0, 1)
        self.fails(NotYet(0), chart.rise, 0)
        store.pass_to(1)
        self.alike(chart.rise(0), 3)
        self.assertTrue(chart == chart)
        self.assertFalse(chart == Chart(store, 0, 1))
        self.assertTrue(issubclass(NotYet, RoadError))


if __name__ == "__main__":
    unittest.main()
