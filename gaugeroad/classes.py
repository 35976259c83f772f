"""How fine and exact trains can be told apart by the rows of counts that they let out."""

from gaugeroad.errors import BadMarks, TooMany, Unlike
from gaugeroad.marks import Marks
from gaugeroad.partings import parting_word
from gaugeroad.parts import Wheel
from gaugeroad.trains import check_train
from gaugeroad.verdicts import Verdict

MOST_BEGINNINGS = 3000
MOST_SIGNS = 6000


class Alike(Verdict):
    """Both trains let out the same rows of counts: these are their rows of marks."""

    def __init__(self, rows):
        self.rows = rows

    def __eq__(self, other):
        return isinstance(other, Alike) and self.rows == other.rows

    def __bool__(self):
        return True


class Parted(Verdict):
    """A word that one of both trains can let out and the other one cannot."""

    def __init__(self, word):
        self.word = word

    def __eq__(self, other):
        return isinstance(other, Parted) and self.word == other.word

    def __bool__(self):
        return False


def rows_of(train):
    """The rows of marks of all beginnings, up to turning."""
    check_train(train, "train")
    check_exact(train, "train")
    check_count(train)
    return rows_of_cycles(cycles_of(train))


def alike(one, other):
    """Whether both trains let out the same rows of counts."""
    check_both(one, other)
    left, right = cycles_of(one), cycles_of(other)
    rows = rows_of_cycles(left)
    if rows == rows_of_cycles(right):
        return Alike(rows)
    return Parted(parting_word([signs for _, signs in left], [signs for _, signs in right]))


def beginning_of(train, word):
    """Beginnings with which a train lets out a word, None if there are none."""
    check_train(train, "train")
    check_exact(train, "train")
    check_count(train)
    if not is_word(word):
        raise BadMarks("word")
    return beginning_in(cycles_of(train), word)


def is_word(value):
    """Whether any value is a string of signs 0 and 1, not too long."""
    if not isinstance(value, str) or len(value) > MOST_SIGNS:
        return False
    return value.count("0") + value.count("1") == len(value)


def check_both(one, other):
    """Refuses two values that are no trains whose rows can be held against each other."""
    check_train(one, "one")
    check_train(other, "other")
    check_exact(one, "one")
    check_exact(other, "other")
    check_count(one)
    check_count(other)


def check_exact(train, name):
    """Refuses a train that is not both fine and exact."""
    if not (train.is_fine and train.is_exact):
        raise Unlike(name)


def check_count(train):
    """Refuses a train with too many beginnings."""
    many = 1
    for size in sizes_of(train):
        many = many * size
    if many > MOST_BEGINNINGS:
        raise TooMany("beginnings", MOST_BEGINNINGS)


def sizes_of(train):
    """How many beginnings each part has."""
    return [part.turn if isinstance(part, Wheel) else part.down for part in train.parts]


def all_beginnings(train):
    """Each tuple of beginnings of a train."""
    rows = [()]
    for size in sizes_of(train):
        rows = [(*row, beginning) for row in rows for beginning in range(size)]
    return rows


def step_of(train, beginnings):
    """The beginnings behind one unit, and the sign of what it brings."""
    many = 1
    behind = []
    for part, beginning in zip(train.parts, beginnings):
        behind.append(part.stands_after(beginning, many))
        many = part.let_out(beginning, many)
    return tuple(behind), str(many)


def cycles_of(train):
    """For each way round: the beginnings that come one behind the other, and their signs."""
    cycles = []
    seen = {}
    for first in all_beginnings(train):
        if first in seen:
            continue
        rows, signs = [], []
        at = first
        # Each unit can be taken back, so each way leads back to where it began.
        while at not in seen:
            seen[at] = True
            rows.append(at)
            at, sign = step_of(train, at)
            signs.append(sign)
        cycles.append((rows, "".join(signs)))
    return cycles


def rows_of_cycles(cycles):
    """The rows of marks of all cycles, each the least of its turns, ascending."""
    rows = [marks_of(signs).turned() for signs in sorted(set([signs for _, signs in cycles]))]
    pairs = sorted(set([(row.period, row.places) for row in rows]))
    return tuple([Marks(period, *places) for period, places in pairs])


def marks_of(signs):
    """The marks at the signs 1 of a row that comes round."""
    places = [place for place, sign in enumerate(signs) if sign == "1"]
    return Marks(len(signs), *places)


def beginning_in(cycles, word):
    """Beginnings of a cycle that lets out a word, None if none does."""
    for rows, signs in cycles:
        at = found_at(signs, word)
        if at >= 0:
            return rows[at]
    return None


def found_at(signs, word):
    """Where a word begins in signs that come round, -1 if it never comes."""
    rounds = len(word) // len(signs) + 2
    return (signs * rounds).find(word)
