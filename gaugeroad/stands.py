"""How a play stands behind each of its deeds."""


class Setting:
    """The zoom, the scroll and the alarm of a play; it never changes."""

    def __init__(self, zoom, scroll, alarm):
        self.zoom = zoom
        self.scroll = scroll
        self.alarm = alarm

    def changed(self, name, value):
        """The setting with one of the three in the place of its own."""
        told = {"zoom": self.zoom, "scroll": self.scroll, "alarm": self.alarm}
        told[name] = value
        return Setting(**told)

    def told(self):
        """All that it was made of."""
        return self.zoom, self.scroll, self.alarm

    def __eq__(self, other):
        return isinstance(other, Setting) and self.told() == other.told()


class Stand:
    """A play behind a deed, and the stand ahead of it; it never changes."""

    def __init__(self, before, deed, happened, flow, sight, setting, crossed=()):
        self.before = before
        self.deed = deed
        self.happened = happened
        self.flow = flow
        self.sight = sight
        self.setting = setting
        # The looks at which the deed read borders: one or none.
        self.crossed = crossed


def stands_up_to(last):
    """All stands up to one, in order."""
    found = []
    stand = last
    while stand is not None:
        found.append(stand)
        stand = stand.before
    return found[::-1]


def deeds_of(last):
    """The texts of all deeds up to a stand."""
    return [stand.deed for stand in stands_up_to(last)[1:]]


def lasting_deeds_of(last):
    """The same without those that set what can be set again."""
    return [deed for deed in deeds_of(last) if deed.split(" ")[0] not in ("zoom", "scroll", "alarm")]


def came_up_to(last, moment):
    """What came up to a moment that is not behind a stand."""
    stand = last
    while stand.flow.moment > moment:
        stand = stand.before
    return stand.flow.came


def columns_of(last):
    """What each column between borders that were read told then, with the setting of now."""
    zoom, scroll = last.setting.zoom, last.setting.scroll
    looks = [look for stand in stands_up_to(last) for look in stand.crossed]
    rises = [(zoom.up * look.tally + scroll) // zoom.down for look in looks]
    return [rises[k + 1] - rises[k] if looks[k].life == looks[k + 1].life else 0 for k in range(len(looks) - 1)]
