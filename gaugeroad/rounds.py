"""Rows that come again and again, and the ends of lengths in a row."""


def shortest_round(row):
    """The shortest beginning of a row, or of a string, that gives it again and again."""
    for many in range(1, len(row)):
        if len(row) % many == 0 and row[:many] * (len(row) // many) == row:
            return row[:many]
    return row


def ends_of(lengths):
    """Where each of some lengths ends, if they lie one behind the other from 0 on."""
    ends = []
    end = 0
    for length in lengths:
        end = end + length
        ends.append(end)
    return ends


def least_turn(row):
    """From which index on a row that comes round is least."""
    many = len(row)
    one, other, same = 0, 1, 0
    # No index up to the end of an equal stretch can begin a lesser turn than the better one.
    while one < many and other < many and same < many:
        left, right = row[(one + same) % many], row[(other + same) % many]
        if left == right:
            same += 1
        else:
            if left > right:
                one = one + same + 1
            else:
                other = other + same + 1
            if one == other:
                other += 1
            same = 0
    return min(one, other)
