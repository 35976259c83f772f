"""What a window tells back, if it is known how old its looks are."""

from gaugeroad.errors import BadNumber, BadRoad
from gaugeroad.kinds import check_number
from gaugeroad.roads import check_road

FAR = 10 ** 30
MOST_LAG = 10 ** 6


def truths(road, rows, lag_a, lag_b, length):
    """The least and the greatest truth of a window that tells so many rows, None if none can."""
    check_seen(road, rows, lag_a, lag_b, length)
    pace = road.pace
    low = road.whole.least_for(rows)
    high = min(road.whole.last(rows), pace.top_of(lag_a + length - lag_b))
    if low > high:
        return None
    if lag_b > length:
        return 0, min(pace.top_of(length), pace.top_of(lag_a + length) - low)
    # Up to what can come in the window ahead of the last look, more between the looks is more in the window.
    inside = pace.top_of(length - lag_b)
    between = max(low, min(inside, high))
    early = min(between, inside)
    late = min(pace.top_of(lag_b), pace.top_of(length) - early, pace.top_of(lag_a + length) - between)
    return max(0, low - pace.top_of(lag_a)), early + late


def rows_that(road, truth, lag_a, lag_b, length):
    """The fewest and the most rows of a window with this truth, None if it cannot be."""
    check_seen(road, truth, lag_a, lag_b, length)
    pace = road.pace
    if truth > pace.top_of(length):
        return None
    between = pace.top_of(lag_a + length - lag_b)
    if lag_b > length:
        least, most = 0, min(between, pace.top_of(lag_a + length) - truth)
    else:
        inside = min(truth, pace.top_of(length - lag_b))
        least = max(0, truth - pace.top_of(lag_b))
        most = inside + min(pace.top_of(lag_a), between - inside, pace.top_of(lag_a + length) - truth)
    return road.whole.fewest_of(least), road.whole.most_of(most)


def check_seen(road, number, lag_a, lag_b, length):
    """Refuses a road whose train is not fine, and windows that cannot be."""
    check_road(road)
    if not road.whole.is_fine:
        raise BadRoad("fine")
    check_number(number, 0, FAR)
    check_number(lag_a, 0, MOST_LAG)
    check_number(lag_b, 0, MOST_LAG)
    check_number(length, 0, FAR)
    if lag_b > length + lag_a:
        raise BadNumber(lag_b)
