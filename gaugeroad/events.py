"""What happens in a play."""


class Event:
    """What happened at a moment: a look, one that became known, a new beginning of the register, a border read."""

    def __init__(self, moment, word, value):
        self.moment = moment
        self.word = word
        self.value = value

    def told(self):
        """All that it was made of."""
        return self.moment, self.word, self.value

    def __eq__(self, other):
        return isinstance(other, Event) and self.told() == other.told()

    def __str__(self):
        if self.word in ("known", "anew", "read"):
            return f"{self.moment} {self.word} {self.value}"
        return f"{self.moment} {self.word}"
