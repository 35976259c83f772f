"""Exact fractions."""

from math import gcd

from gaugeroad.errors import BadRatio
from gaugeroad.kinds import is_whole
from gaugeroad.words import Words, is_number_word


class Ratio:
    """The fraction up / down, in lowest terms."""

    def __init__(self, up, down=1):
        if not is_whole(up):
            raise BadRatio(up)
        if not is_whole(down) or down == 0:
            raise BadRatio(down)
        shared = gcd(up, down) if down > 0 else -gcd(up, down)
        self.up = up // shared
        self.down = down // shared

    @classmethod
    def read(cls, text):
        """The fraction with this text."""
        words = Words(text)
        found = ratio_of_word(words.ahead())
        if found is None:
            words.refuse()
        words.take(words.ahead())
        words.finish()
        return found

    @property
    def floor(self):
        """The greatest integer that is not above."""
        return self.up // self.down

    @property
    def ceiling(self):
        """The least integer that is not below."""
        return -(-self.up // self.down)

    def over(self, other):
        """The quotient."""
        return quotient(self, other)

    def less(self, other):
        """Whether this is less."""
        return (self - other).up < 0

    def at_most(self, other):
        """Whether this is less or equal."""
        return (self - other).up <= 0

    def __eq__(self, other):
        if isinstance(other, Ratio):
            return self.up == other.up and self.down == other.down
        return is_whole(other) and self.down == 1 and self.up == other

    def __str__(self):
        if self.down == 1:
            return str(self.up)
        return f"{self.up}/{self.down}"

    def __add__(self, other):
        return added(self, as_ratio(other))

    def __radd__(self, other):
        return added(as_ratio(other), self)

    def __sub__(self, other):
        return added(self, -as_ratio(other))

    def __rsub__(self, other):
        return added(as_ratio(other), -self)

    def __mul__(self, other):
        return times(self, as_ratio(other))

    def __rmul__(self, other):
        return times(as_ratio(other), self)

    def __floordiv__(self, other):
        return quotient(self, other).floor

    def __rfloordiv__(self, other):
        return quotient(as_ratio(other), self).floor

    def __mod__(self, other):
        return remainder(self, other)

    def __rmod__(self, other):
        return remainder(as_ratio(other), self)

    def __neg__(self):
        return Ratio(-self.up, self.down)

    def __abs__(self):
        return Ratio(abs(self.up), self.down)


def as_ratio(value):
    """Any value that is a Ratio or an integer, as a Ratio."""
    if isinstance(value, Ratio):
        return value
    return Ratio(value)


def added(one, other):
    """The sum of two Ratios."""
    return Ratio(one.up * other.down + other.up * one.down, one.down * other.down)


def times(one, other):
    """The product of two Ratios."""
    return Ratio(one.up * other.up, one.down * other.down)


def quotient(one, other):
    """A Ratio by any value."""
    divisor = as_ratio(other)
    if divisor.up == 0:
        raise BadRatio(other)
    return Ratio(one.up * divisor.down, one.down * divisor.up)


def remainder(one, other):
    """What is left of a Ratio, divided by any value."""
    whole = quotient(one, other).floor
    return added(one, times(as_ratio(other), Ratio(-whole)))


def ratio_of_word(word):
    """The Ratio whose text a word is, None if there is none."""
    up, _, down = word.partition("/")
    if not is_number_word(up):
        return None
    if up == word:
        return Ratio(int(up))
    if not is_number_word(down) or down == "0":
        return None
    found = Ratio(int(up), int(down))
    # Only the text in lowest terms is the one that str writes.
    return found if str(found) == word else None
