"""The greatest values of rows, over stretches of them."""

from gaugeroad.growths import growth_of_values


class Heights:
    """A row that comes round, and the greatest value of any stretch of it."""

    def __init__(self, row):
        self.period = len(row)
        self.levels = [[*row, *row]]
        # Each level tells the greatest of stretches twice as long as those of the level ahead of it.
        width = 1
        while 2 * width <= len(row):
            ahead = self.levels[-1]
            self.levels.append([max(one, other) for one, other in zip(ahead, ahead[width:])])
            width = 2 * width

    def greatest(self, low, high):
        """The greatest value from low to high."""
        many = min(high - low + 1, self.period)
        level = many.bit_length() - 1
        begin = low % self.period
        row = self.levels[level]
        return max(row[begin], row[begin + many - (1 << level)])


def highest_growth(row, gain):
    """The greatest value up to each number, of a row that comes again and again, each time so much higher."""
    values = []
    for value in [*row, *[value + gain for value in row]]:
        values.append(max([value, *values[-1:]]))
    return growth_of_values(values, len(row))
