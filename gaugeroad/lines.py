"""Rows of looks as they come."""

from gaugeroad.courses import course_of_habit, course_of_looks
from gaugeroad.errors import BadPlay
from gaugeroad.habits import Habit
from gaugeroad.kinds import check_number
from gaugeroad.looks import Looks

FAR = 10 ** 30


class Line:
    """Looks that are taken one by one, as a habit or as scheduled ones; it changes."""

    def __init__(self, looks, begin):
        if not isinstance(looks, (Looks, Habit)):
            raise BadPlay("looks")
        check_number(begin, -FAR, FAR)
        self.looks = looks
        self._course = course_of(looks, begin)
        self._now = begin
        self._rows = [(begin, True)]

    @property
    def now(self):
        """The moment to which it was led."""
        return self._now

    @property
    def due(self):
        """The last moment at which the next look can be taken."""
        return self._course.latest()

    @property
    def taken(self):
        """The moments of all looks, each with whether its packet was kept."""
        return tuple(self._rows)

    def look(self, moment, kept=True):
        """Takes the next look, and tells the moments of those that become known by it."""
        check_number(moment, self._now, FAR)
        check_look(self._course, moment, kept)
        found = self._course.known_by(moment, kept)
        self._course = self._course.led_on(moment, kept)
        self._now = moment
        self._rows.append((moment, kept))
        return found

    def pass_to(self, moment):
        """Leads it to a moment without a look."""
        check_number(moment, self._now, FAR)
        check_late(self._course, moment)
        self._now = moment

    def twin(self):
        """An equal line that goes its own way."""
        other = Line(self.looks, self._rows[0][0])
        other._course = self._course
        other._now = self._now
        other._rows = list(self._rows)
        return other

    def __eq__(self, other):
        if not isinstance(other, Line) or self.looks != other.looks:
            return False
        return (self.now, self.taken) == (other.now, other.taken)


def course_of(looks, begin):
    """Where a row of looks can be behind a first one at begin."""
    return course_of_habit(looks, begin) if isinstance(looks, Habit) else course_of_looks(looks, begin)


def check_look(course, moment, kept):
    """Refuses a next look that cannot be taken then, or not be lost."""
    if not isinstance(kept, bool):
        raise BadPlay("kept")
    check_late(course, moment)
    if not course.can_look(moment):
        raise BadPlay("early")
    if not kept and not course.can_lose():
        raise BadPlay("losses")


def check_late(course, moment):
    """Refuses a moment behind the one at which the next look is due."""
    if moment > course.latest():
        raise BadPlay("late")
