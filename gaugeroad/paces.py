"""Paces: how much can come in so many ticks at most."""

from gaugeroad.errors import BadPace, TooMany
from gaugeroad.growths import growth_of_values, least_above
from gaugeroad.kinds import check_number, is_within
from gaugeroad.rounds import ends_of
from gaugeroad.words import Words

FAR_TICKS = 10 ** 32
FAR = 10 ** 40
MOST_RULES = 6
MOST_TICKS = 60
MOST_AMOUNT = 10 ** 6


class Pace:
    """Rules, each a pair of ticks and of the most that comes in any so many."""

    MOST = 6
    LONGEST = 60

    def __init__(self, *rules):
        if not rules:
            raise BadPace(None)
        for at, rule in enumerate(rules):
            if not is_rule(rule):
                raise BadPace(at)
        unlike = sorted(set(rules))
        if len(unlike) > MOST_RULES:
            raise TooMany("rules", MOST_RULES)
        self.rules = tuple(unlike)
        self._top = growth_of_rules(self.rules)

    @staticmethod
    def steady(most):
        """The pace of so much in each tick."""
        check_number(most, 1, MOST_AMOUNT)
        return Pace((1, most))

    @classmethod
    def read(cls, text):
        """The pace with this text."""
        words = Words(text)
        rules = take_rules(words)
        return Pace(*rules)

    @property
    def top_growth(self):
        """The most that comes, for each number of ticks."""
        return self._top

    def top(self, k):
        """The most that comes in k ticks."""
        check_number(k, 0, FAR_TICKS)
        return self._top.value_at(k)

    def top_of(self, k):
        """The most that comes in any number of ticks, however great."""
        return self._top.value_at(k)

    def covering(self, k):
        """How often each rule is taken for the most that comes in k ticks."""
        check_number(k, 0, FAR_TICKS)
        best = best_rule(self.rules)
        far = max(0, k - last_unsteady(self.rules))
        # So far out the best rule is taken again and again.
        times = [-(-far // best[0]) if rule == best else 0 for rule in self.rules]
        left = max(0, k - sum(times) * best[0])
        while left > 0:
            at = last_taken(self, left)
            times[at] = times[at] + 1
            left = max(0, left - self.rules[at][0])
        return tuple(times)

    def soonest(self, amount):
        """The fewest ticks in which so much can come."""
        check_number(amount, 0, FAR)
        return self.soonest_of(amount)

    def soonest_of(self, amount):
        """The fewest ticks in which any amount can come."""
        return least_above(self._top, amount - 1)

    def holds(self, ticks, most):
        """Whether in any so many ticks at most so much comes."""
        check_number(ticks, 0, FAR_TICKS)
        check_number(most, 0, FAR)
        return self.top_of(ticks) <= most

    def keeps(self, other):
        """Whether each history that keeps this pace keeps the other one."""
        check_other(other)
        return all([self.top_of(ticks) <= most for ticks, most in other.rules])

    def needless(self):
        """The rules that hold by the other ones alone."""
        return tuple([rule for rule in self.rules if is_needless(rule, self.rules)])

    def tight(self):
        """The pace of the rules that are not needless."""
        rules = [rule for rule in self.rules if not is_needless(rule, self.rules)]
        return Pace(*rules)

    def __len__(self):
        return len(self.rules)

    def __iter__(self):
        return iter(self.rules)

    def __contains__(self, value):
        return is_rule(value) and value in self.rules

    def __and__(self, other):
        check_other(other)
        return Pace(*self.rules, *other.rules)

    def __eq__(self, other):
        return isinstance(other, Pace) and self.rules == other.rules

    def __str__(self):
        return " / ".join([f"{ticks} {most}" for ticks, most in self.rules])


def is_rule(value):
    """Whether any value is a pair of ticks and of the most that comes in them."""
    if not isinstance(value, tuple) or len(value) != 2:
        return False
    return is_within(value[0], 1, MOST_TICKS) and is_within(value[1], 1, MOST_AMOUNT)


def check_pace(pace):
    """Refuses any value that is no pace."""
    if not isinstance(pace, Pace):
        raise BadPace(None)


def can_come(rules, amounts):
    """Whether amounts that come tick by tick, and nothing around them, keep rules."""
    sums = [0, *ends_of(amounts)]
    last = len(amounts)
    for ticks, most in rules:
        if any([sums[min(at + ticks, last)] - sums[at] > most for at in range(last)]):
            return False
    return True


def check_other(other):
    """Refuses any value that is no pace to hold against another one."""
    if not isinstance(other, Pace):
        raise BadPace("other")


def take_rules(words):
    """The ascending rules that the words of a pace tell."""
    rules = [take_rule(words, (1, 0))]
    while not words.take_end_or("/", len(rules) < MOST_RULES):
        rules.append(take_rule(words, rules[-1]))
    return rules


def take_rule(words, ahead):
    """The next rule of a text, which is greater than the one ahead of it."""
    ticks = words.take_number(max(1, ahead[0]), MOST_TICKS)
    least = ahead[1] + 1 if ticks == ahead[0] else 1
    return ticks, words.take_number(least, MOST_AMOUNT)


def tops_up_to(rules, last):
    """The most that comes by these rules in no tick, in one tick, and so on."""
    tops = [0]
    for k in range(1, last + 1):
        tops.append(min([tops[max(0, k - ticks)] + most for ticks, most in rules]))
    return tops


def best_rule(rules):
    """The rule that lets least for each tick, of such ones the shortest."""
    best = rules[0]
    for ticks, most in rules:
        if most * best[0] < best[1] * ticks:
            best = (ticks, most)
    return best


def last_unsteady(rules):
    """Behind so many ticks a cheapest cover takes the best rule."""
    # Of as many other rules as the best one has ticks, some together have a multiple of these.
    return (best_rule(rules)[0] - 1) * max([ticks for ticks, _ in rules])


def growth_of_rules(rules):
    """The most that comes by these rules, for each number of ticks."""
    many = best_rule(rules)[0]
    return growth_of_values(tops_up_to(rules, last_unsteady(rules) + many), many)


def last_taken(pace, k):
    """The index of a rule that a cheapest cover of k ticks takes."""
    lets = [most + pace.top_of(max(0, k - ticks)) for ticks, most in pace.rules]
    return lets.index(pace.top_of(k))


def is_needless(rule, rules):
    """Whether a rule holds by the other ones alone."""
    others = [other for other in rules if other != rule]
    return others != [] and tops_up_to(others, rule[0])[-1] <= rule[1]
