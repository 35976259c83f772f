"""Blocks behind which a thing is as it was."""


class Trial:
    """A block in which a thing may change; all that changes of it is in its state, which is made anew."""

    def __init__(self, thing):
        self.thing = thing
        self.before = None

    def __enter__(self):
        self.before = self.thing._state
        return self.thing

    def __exit__(self, *told):
        self.thing._state = self.before
