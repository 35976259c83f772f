"""A shortest word that rows of one side have, and those of the other side have not."""


class Level:
    """Of each place: how the word of one length from there compares, and where it leads."""

    def __init__(self, length, ranks, jumps):
        self.length = length
        self.ranks = ranks
        self.jumps = jumps

    def joined(self, other):
        """The level of the words of this one, each with a word of other behind it."""
        many = len(self.ranks)
        pairs = [rank * many + other.ranks[jump] for rank, jump in zip(self.ranks, self.jumps)]
        order = {pair: rank for rank, pair in enumerate(sorted(set(pairs)))}
        jumps = [other.jumps[jump] for jump in self.jumps]
        return Level(self.length + other.length, [order[pair] for pair in pairs], jumps)

    def is_parted(self, many):
        """Whether the first places, so many, have other words than the others."""
        return set(self.ranks[:many]) != set(self.ranks[many:])


def parting_word(left, right):
    """The least of the shortest words that only one side has; all rows come round."""
    many = sum([len(signs) for signs in left])
    single = single_signs([*left, *right])
    last = longest_shared(single, many).joined(single)
    alone = sorted(set(last.ranks[:many]) ^ set(last.ranks[many:]))
    return word_from(single, last.ranks.index(alone[0]), last.length)


def single_signs(rows):
    """The level of single signs of rows that come round."""
    ranks = [int(sign) for sign in "".join(rows)]
    jumps = []
    for signs in rows:
        begin = len(jumps)
        jumps.extend([begin + (at + 1) % len(signs) for at in range(len(signs))])
    return Level(1, ranks, jumps)


def longest_shared(single, many):
    """The level of the greatest length whose words both sides have."""
    places = list(range(len(single.ranks)))
    shared = Level(0, [0 for _ in places], places)
    # Words are doubled until they part, then shortened by halves: no length is gone through.
    doubles = [single]
    while not doubles[-1].is_parted(many):
        doubles.append(doubles[-1].joined(doubles[-1]))
    for double in doubles[::-1]:
        longer = shared.joined(double)
        if not longer.is_parted(many):
            shared = longer
    return shared


def word_from(single, at, length):
    """The word of a length that begins at a place."""
    signs = []
    for _ in range(length):
        signs.append(str(single.ranks[at]))
        at = single.jumps[at]
    return "".join(signs)
