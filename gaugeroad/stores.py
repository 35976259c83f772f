"""Known looks, thinned as they grow old."""

from gaugeroad.errors import BadStore, Forgotten, Nothing, NotYet, Unlike
from gaugeroad.kinds import check_number, is_whole
from gaugeroad.tiers import Tiers
from gaugeroad.trials import Trial

FAR = 10 ** 30
FAR_TALLY = 10 ** 40
MOST_PATIENCE = 10 ** 6
MOST_LIFE = 10 ** 6


class Look:
    """A known look: its moment, the total that it tells, and the life in which that was counted."""

    def __init__(self, moment, tally, life=0):
        self.moment = moment
        self.tally = tally
        self.life = life

    def __eq__(self, other):
        return isinstance(other, Look) and told_of(self) == told_of(other)


class State:
    """What a store has at a moment: its looks, up to when each is needed, and up to when all are."""

    def __init__(self, moment, looks, untils, until):
        self.moment = moment
        self.looks = looks
        self.untils = untils
        self.until = until


class Store:
    """Known looks with their totals, as many as are needed to read borders; it changes."""

    def __init__(self, tiers, patience, begin=0):
        if not isinstance(tiers, Tiers):
            raise BadStore("tiers")
        check_number(patience, 1, MOST_PATIENCE)
        check_number(begin, -FAR, FAR)
        if patience > tiers.oldest:
            raise BadStore("patience")
        self.tiers = tiers
        self.patience = patience
        self._state = State(begin, (), (), FAR)

    @property
    def now(self):
        """The moment up to which it was led."""
        return self._state.moment

    def pass_to(self, moment):
        """Leads it to a moment."""
        check_number(moment, self.now, FAR)
        state = self._state
        self._state = thinned(State(moment, state.looks, state.untils, state.until))

    def put(self, moment, tally, life=0):
        """Makes a look known."""
        check_number(moment, -FAR, FAR)
        check_number(tally, 0, FAR_TALLY)
        check_number(life, 0, MOST_LIFE)
        if moment > self.now:
            raise BadStore("ahead")
        if self.now - moment >= self.patience:
            raise BadStore("late")
        looks = self._state.looks
        at = many_up_to(looks, moment)
        look = Look(moment, tally, life)
        if at > 0 and looks[at - 1].moment == moment:
            if looks[at - 1] != look:
                raise Unlike("look")
            return
        check_between(look, looks[at - 1:at], looks[at:at + 1])
        untils = untils_with(self, moment, at)
        state = State(self.now, (*looks[:at], look, *looks[at:]), untils, min(untils))
        self._state = thinned(state)

    def look_at(self, border):
        """The look at which a border is read now."""
        return look_of(self, border)

    def kept(self):
        """The looks that are kept, ascending by their moments."""
        return self._state.looks

    def trial(self):
        """A block behind which the store is as when it began."""
        return Trial(self)

    def tried(self, work):
        """What some work on the store returns, which is as before behind it."""
        with Trial(self) as same:
            return work(same)

    def twin(self):
        """An equal store that goes its own way."""
        other = Store(self.tiers, self.patience)
        other._state = self._state
        return other

    def __len__(self):
        return len(self._state.looks)

    def __iter__(self):
        return iter(self._state.looks)

    def __contains__(self, value):
        if not is_whole(value):
            return False
        looks = self._state.looks
        at = many_up_to(looks, value)
        return at > 0 and looks[at - 1].moment == value

    def __getitem__(self, at):
        return look_of(self, at).tally

    def __eq__(self, other):
        if not isinstance(other, Store) or self.tiers != other.tiers:
            return False
        return (self.patience, self.now, self.kept()) == (other.patience, other.now, other.kept())


def told_of(look):
    """What a look was made of."""
    return look.moment, look.tally, look.life


def many_up_to(looks, moment):
    """How many looks lie up to a moment."""
    low, high = 0, len(looks)
    while low < high:
        middle = (low + high) // 2
        if looks[middle].moment <= moment:
            low = middle + 1
        else:
            high = middle
    return low


def check_between(look, ahead, behind):
    """Refuses a look that does not fit between the one ahead of it and the one behind it, if there are such."""
    rows = [*ahead, look, *behind]
    pairs = list(zip(rows, rows[1:]))
    if any([one.life > other.life for one, other in pairs]):
        raise BadStore("life")
    if any([one.life == other.life and one.tally > other.tally for one, other in pairs]):
        raise BadStore("tally")


def look_of(store, border):
    """The look at which a border is read now."""
    check_number(border, -FAR, FAR)
    age = store.now - border
    if age < store.patience:
        raise NotYet(border)
    if age > store.tiers.oldest:
        raise Forgotten(border)
    looks = store.kept()
    at = many_up_to(looks, store.tiers.grid_of(border, age))
    if at == 0:
        raise Nothing()
    return looks[at - 1]


def untils_with(store, moment, at):
    """Up to when the looks of a store are needed, with one more at a place."""
    looks, untils = store._state.looks, store._state.untils
    # Only for the look ahead of it another one is the next now.
    ahead = [kept_until(store, look.moment, moment) for look in looks[at - 1:at]]
    # The last look is always needed: borders behind it will be read.
    own = kept_until(store, moment, looks[at].moment) if at < len(looks) else FAR
    return (*untils[:max(0, at - 1)], *ahead, own, *untils[at:])


def thinned(state):
    """The same state with just the looks that are needed at its moment."""
    if state.moment <= state.until:
        return state
    looks = [look for look, until in zip(state.looks, state.untils) if until >= state.moment]
    untils = [until for until in state.untils if until >= state.moment]
    return State(state.moment, tuple(looks), tuple(untils), min(untils))


def kept_until(store, moment, after):
    """Up to when a look is needed, if the next one lies at after."""
    untils = [moment + store.patience - 1]
    for width, keep in store.tiers.pairs:
        last = after - 1 - (after - 1) % width
        # Borders from this multiple on are read there, up to the age keep - 1.
        if keep > store.patience and last >= moment:
            untils.append(last + width - 1 + keep - 1)
    return max(untils)
