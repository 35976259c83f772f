"""Texts, read word by word from the left."""

from gaugeroad.errors import BadText

DIGITS = 40


def is_number_word(word):
    """Whether a word is an integer as str writes it, with at most 40 digits."""
    digits = word[1:] if word.startswith("-") else word
    # The length is asked first: Python converts no digits without end.
    if not 1 <= len(digits) <= DIGITS:
        return False
    if [sign for sign in digits if sign not in "0123456789"]:
        return False
    return str(int(word)) == word


class Words:
    """The words of a text, parted at single spaces and taken one by one."""

    def __init__(self, text, line=0):
        if not isinstance(text, str):
            raise BadText(line, 0)
        self.line = line
        self.words = text.split(" ")
        self.place = 0

    def is_done(self):
        """Whether all words are taken."""
        return self.place == len(self.words)

    def count_of(self, sign):
        """How often a word stands in the whole text, wherever that is."""
        return self.words.count(sign)

    def ahead(self):
        """The next word, an empty string behind the last one."""
        return "" if self.is_done() else self.words[self.place]

    def has_behind(self, sign):
        """Whether a word stands behind the next one."""
        return sign in self.words[self.place + 1:self.place + 2]

    def refuse(self):
        """Tells that the next word cannot stand, or that it is missing."""
        raise BadText(self.line, self.place)

    def take(self, *options):
        """Takes the next word, which is to be one of the options."""
        word = self.ahead()
        if self.is_done() or word not in options:
            self.refuse()
        self.place += 1
        return word

    def take_integer(self):
        """Takes any integer of at most 40 digits."""
        word = self.ahead()
        if not is_number_word(word):
            self.refuse()
        self.place += 1
        return int(word)

    def has_number(self, low, high):
        """Whether the next word is an integer from low to high."""
        word = self.ahead()
        return is_number_word(word) and low <= int(word) <= high

    def take_number(self, low, high):
        """Takes an integer from low to high."""
        if not self.has_number(low, high):
            self.refuse()
        return self.take_integer()

    def take_among(self, numbers):
        """Takes one of some integers."""
        word = self.ahead()
        if not is_number_word(word) or int(word) not in numbers:
            self.refuse()
        return self.take_integer()

    def take_multiple(self, step, low, high):
        """Takes a multiple of step from low to high."""
        word = self.ahead()
        if is_number_word(word) and int(word) % step != 0:
            self.refuse()
        return self.take_number(low, high)

    def take_end_or(self, sign, may_go_on):
        """Whether all words are taken; otherwise takes a sign, if the text may go on."""
        if self.is_done():
            return True
        if not may_go_on:
            self.refuse()
        self.take(sign)
        return False

    def finish(self):
        """Tells a word too many."""
        if not self.is_done():
            self.refuse()
