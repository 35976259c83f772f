"""Charts: columns over a live store."""

from gaugeroad.errors import BadChart, Broken, Forgotten, Nothing, TooMany
from gaugeroad.kinds import check_number
from gaugeroad.parts import Gear
from gaugeroad.stores import Store

FAR = 10 ** 20
MOST_WIDTH = 10 ** 6
MOST_SCROLL = 10 ** 9
LAST_COLUMN = 10 ** 9
MOST_COLUMNS = 1000


class Chart:
    """What a store tells column by column, at a zoom and a scroll that can be set."""

    def __init__(self, store, begin, width, zoom=None, scroll=0):
        if not isinstance(store, Store):
            raise BadChart("store")
        check_number(begin, -FAR, FAR)
        check_number(width, 1, MOST_WIDTH)
        if zoom is not None:
            check_zoom(zoom)
        check_scroll(scroll)
        self.store = store
        self.begin = begin
        self.width = width
        self._zoom = Gear(1, 1) if zoom is None else zoom
        self._scroll = scroll

    @property
    def zoom(self):
        """The gear of the rises."""
        return self._zoom

    @zoom.setter
    def zoom(self, value):
        check_zoom(value)
        self._zoom = value

    @property
    def scroll(self):
        """What is added ahead of the gear."""
        return self._scroll

    @scroll.setter
    def scroll(self, value):
        check_scroll(value)
        self._scroll = value

    @property
    def newest(self):
        """The number of the last column that is not too young, -1 without one."""
        border = (self.store.now - self.store.patience - self.begin) // self.width
        return max(-1, min(border - 1, LAST_COLUMN))

    def change(self, name, value):
        """Sets the zoom or the scroll."""
        if not isinstance(name, str) or name not in ("zoom", "scroll"):
            raise BadChart("name")
        if name == "zoom":
            self.zoom = value
        else:
            self.scroll = value

    def border(self, k):
        """The moment of a border."""
        check_column(k)
        return moment_of(self, k)

    def rise(self, k):
        """The rise at a border."""
        check_column(k)
        return rise_of(self, self.store.look_at(moment_of(self, k)))

    def across(self, first, after):
        """How much the rise at a border is more than that at one ahead of it."""
        check_stretch(first, after)
        return rise_between(self, first, after)

    def row(self, first, after):
        """The columns from first to after - 1."""
        check_columns(first, after)
        return tuple([rise_between(self, k, k + 1) for k in range(first, after)])

    def walk(self, first=0):
        """The numbers of the columns from first on, each with what it tells."""
        check_column(first)
        for k in range(first, self.newest + 1):
            yield k, column_or_none(self, k)

    def __getitem__(self, at):
        check_column(at)
        return rise_between(self, at, at + 1)

    def __iter__(self):
        raise TypeError("a chart is walked, not iterated over")


def check_zoom(zoom):
    """Refuses any value that is no gear."""
    if not isinstance(zoom, Gear):
        raise BadChart("zoom")


def check_scroll(scroll):
    """Refuses any value that is no scroll."""
    check_number(scroll, 0, MOST_SCROLL)


def check_column(k):
    """Refuses any value that is no number of a column or a border."""
    check_number(k, 0, LAST_COLUMN)


def check_stretch(first, after):
    """Refuses any values that are no numbers of borders in order."""
    check_column(first)
    check_number(after, first, LAST_COLUMN)


def check_columns(first, after):
    """Refuses what is no stretch of so many columns at most."""
    check_stretch(first, after)
    if after - first > MOST_COLUMNS:
        raise TooMany("columns", MOST_COLUMNS)


def moment_of(chart, k):
    """The moment of a border, also of the one behind the last."""
    return chart.begin + k * chart.width


def rise_of(chart, look):
    """The rise that a look tells."""
    return (chart.zoom.up * look.tally + chart.scroll) // chart.zoom.down


def rise_between(chart, first, after):
    """What the chart rises between two borders."""
    look = chart.store.look_at(moment_of(chart, first))
    behind = chart.store.look_at(moment_of(chart, after))
    if look.life != behind.life:
        raise Broken(moment_of(chart, after))
    return rise_of(chart, behind) - rise_of(chart, look)


def column_or_none(chart, k):
    """What a column tells, None if it can no longer be read or never could."""
    try:
        return rise_between(chart, k, k + 1)
    except (Forgotten, Broken, Nothing):
        return None
