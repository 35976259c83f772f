"""The base of the papers that answer yes or no."""


class Verdict:
    """A paper that is true or false; each class below says which."""
