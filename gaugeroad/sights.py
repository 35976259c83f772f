"""Looks of a play: those that are taken, become known, are read back and put into a store."""

from gaugeroad.lines import course_of
from gaugeroad.registers import Restarting
from gaugeroad.stores import Store
from gaugeroad.tiers import Tiers

LONGEST_KEEP = 10 ** 9


class Sight:
    """The looks of a play at a moment; it never changes, nor does its store."""

    def __init__(self, course, fresh, back, store):
        self.course = course
        # The looks that are not read back yet: moment, reading, whether each is known.
        self.fresh = fresh
        # The reading and the total of the last look that was read back, None without one.
        self.back = back
        self.store = store

    def with_look(self, moment, kept, shows):
        """The sight behind one more look with a reading, and the looks that become known by it."""
        found = self.course.known_by(moment, kept)
        rows = (*self.fresh, (moment, shows, False))
        fresh = tuple([(when, told, is_known or when in found) for when, told, is_known in rows])
        return Sight(self.course.led_on(moment, kept), fresh, self.back, self.store), found

    def led_on(self, display):
        """The sight one tick later: a look that no later packet makes known is read back ahead of it."""
        store = self.store.twin()
        ripe = store.now - store.patience + 1
        fresh, back = self.fresh, self.back
        if fresh != () and fresh[0][0] == ripe:
            if fresh[0][2]:
                back = read_behind(display, back, fresh[0][1])
                store.put(ripe, back[1], life_of(display, back[0]))
            fresh = fresh[1:]
        store.pass_to(store.now + 1)
        return Sight(self.course, fresh, back, store)


def first_sight(road, begin, shows):
    """The sight behind the first look, which is known at once."""
    tiers = Tiers((1, LONGEST_KEEP)) if road.tiers is None else road.tiers
    store = Store(tiers, road.patience, begin)
    return Sight(course_of(road.looks, begin), ((begin, shows, True),), None, store)


def read_behind(display, back, shows):
    """A reading with the total that is read back from it, behind the one ahead of it."""
    if back is None or isinstance(display, Restarting):
        return shows, display.total_of(shows)
    return shows, back[1] + display.between(back[0], shows)


def life_of(display, shows):
    """In which life a reading was shown."""
    return shows[0] if isinstance(display, Restarting) else 0
