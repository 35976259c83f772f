"""Roads: all from the units that come to the columns of a chart."""

from gaugeroad.errors import BadRoad
from gaugeroad.gauges import Gauges
from gaugeroad.habits import Habit
from gaugeroad.kinds import is_within
from gaugeroad.looks import Looks
from gaugeroad.paces import Pace
from gaugeroad.parts import Gear
from gaugeroad.registers import Plain, Register, Restarting
from gaugeroad.tiers import Tiers
from gaugeroad.trains import Train

MOST_WIDTH = 1000
PATIENCE_OF_HABIT = 1


class Road:
    """A train, a pace and looks, with a register, tiers, the width of columns and a zoom."""

    def __init__(self, train, pace, looks, *, display=None, tiers=None, width=1, zoom=None):
        if not isinstance(train, Train):
            raise BadRoad("train")
        if not isinstance(pace, Pace):
            raise BadRoad("pace")
        if not isinstance(looks, (Looks, Habit)):
            raise BadRoad("looks")
        if display is not None and not isinstance(display, Register):
            raise BadRoad("display")
        if tiers is not None and not isinstance(tiers, Tiers):
            raise BadRoad("tiers")
        if not is_within(width, 1, MOST_WIDTH):
            raise BadRoad("width")
        if zoom is not None and not isinstance(zoom, Gear):
            raise BadRoad("zoom")
        self.train = train
        self.pace = pace
        self.looks = looks
        self.display = Plain() if display is None else display
        self.tiers = tiers
        self.width = width
        self.zoom = Gear(1, 1) if zoom is None else zoom
        self.whole = train + self.zoom
        self.habit = looks if isinstance(looks, Habit) else looks.known()
        self.patience = PATIENCE_OF_HABIT if isinstance(looks, Habit) else looks.patience
        self.scale = self.whole.worth.down
        if not isinstance(self.display, (Plain, Restarting)) and not train.is_fine:
            raise BadRoad("fine")
        if tiers is not None and tiers.pairs[0][1] <= self.patience:
            raise BadRoad("keep")
        self._gauges = Gauges(self.whole, pace, self.habit)

    def changed(self, **parts):
        """The road with some parts in the place of its own."""
        told = {"train": self.train, "pace": self.pace, "looks": self.looks, "display": self.display,
                "tiers": self.tiers, "width": self.width, "zoom": self.zoom}
        for name in parts:
            if name not in told:
                raise BadRoad("name")
            told[name] = parts[name]
        return Road(**told)

    def told(self):
        """The seven parts of which it was made."""
        return self.train, self.pace, self.looks, self.display, self.tiers, self.width, self.zoom

    def __eq__(self, other):
        return isinstance(other, Road) and self.told() == other.told()


def above_gauge(road):
    """What the gaps above of a road are reckoned from."""
    return road._gauges.of_above()


def below_gauge(road):
    """What the gaps below of a road are reckoned from."""
    return road._gauges.of_below()


def check_road(road):
    """Refuses any value that is no road."""
    if not isinstance(road, Road):
        raise BadRoad("road")
