"""Where a row of looks can be behind those that were taken, and which looks become known."""

from gaugeroad.habits import states_behind


class HabitCourse:
    """A habit behind a look, in one of some states."""

    def __init__(self, habit, moment, states):
        self.habit = habit
        self.moment = moment
        self.states = states

    def latest(self):
        """The last moment at which the next look can be taken."""
        return self.moment + max([self.habit.states[state][-1][0] for state in self.states])

    def can_look(self, moment):
        """Whether the next look can be taken then, if that is not too late."""
        return states_behind(self.habit.states, self.states, moment - self.moment) != []

    def can_lose(self):
        """Whether the next look can be lost: those of a habit are the known ones."""
        return False

    def known_by(self, moment, _):
        """The looks that become known by the next one."""
        return (moment,)

    def led_on(self, moment, _):
        """The course behind the next look."""
        return HabitCourse(self.habit, moment, states_behind(self.habit.states, self.states, moment - self.moment))


class LooksCourse:
    """Scheduled looks behind one of them: when the next one can be due, and the places of the loss rule."""

    def __init__(self, looks, low, high, places, recent):
        self.looks = looks
        self.low = low
        self.high = high
        self.places = places
        # The last looks, each a pair of its moment and of whether it is known.
        self.recent = recent

    def latest(self):
        """The last moment at which the next look can be taken."""
        return self.high + self.looks.late

    def can_look(self, moment):
        """Whether the next look can be taken then, if that is not too late."""
        return moment >= self.low

    def can_lose(self):
        """Whether the next packet can be lost."""
        return self.looks.losses.places_behind(self.places, "x") != ()

    def known_by(self, moment, kept):
        """The looks that become known by the next packet."""
        rows = (*self.recent, (moment, False))
        return tuple([rows[at][0] for at in self.carried(rows, kept) if not rows[at][1]])

    def carried(self, rows, kept):
        """The places in the last looks, ascending, of those that the last packet makes known."""
        if not kept:
            return []
        return [len(rows) - 1 - age for age in self.looks.ages[::-1] if age < len(rows)]

    def led_on(self, moment, kept):
        """The course behind the next look."""
        rows = (*self.recent, (moment, False))
        carried = self.carried(rows, kept)
        rows = [(when, is_known or at in carried) for at, (when, is_known) in enumerate(rows)]
        # Packets carry no elder look than so many ahead of the next one.
        recent = tuple(rows[-self.looks.ages[-1]:]) if self.looks.ages[-1] > 0 else ()
        low = max(self.low, moment - self.looks.late) + self.looks.period
        high = min(self.high, moment) + self.looks.period
        places = self.looks.losses.places_behind(self.places, "." if kept else "x")
        return LooksCourse(self.looks, low, high, places, recent)


def course_of_habit(habit, begin):
    """The course of a habit behind a look at begin."""
    return HabitCourse(habit, begin, list(range(len(habit.states))))


def course_of_looks(looks, begin):
    """The course of scheduled looks behind look 0, which is taken at begin and kept."""
    places = tuple(range(len(looks.losses.places)))
    return LooksCourse(looks, begin - looks.late, begin, places, ()).led_on(begin, True)
