"""Charts drawn in signs."""

from gaugeroad.charts import Chart, check_columns, rise_between
from gaugeroad.errors import BadChart, Broken, Forgotten, Nothing, NotYet

MOST_SIGNS = 40


def drawn(chart, first, after):
    """A line for each column from first to after - 1."""
    if not isinstance(chart, Chart):
        raise BadChart("chart")
    check_columns(first, after)
    return [f"{k} {drawn_column(chart, k)}" for k in range(first, after)]


def drawn_column(chart, k):
    """What a column tells, or why it cannot be read."""
    try:
        return drawn_number(rise_between(chart, k, k + 1))
    except NotYet:
        return "later"
    except Forgotten:
        return "old"
    except Nothing:
        return "none"
    except Broken:
        return "broken"


def drawn_number(number):
    """A number, with as many signs behind it."""
    if number == 0:
        return "0"
    signs = "#" * min(number, MOST_SIGNS)
    return f"{number} {signs}+" if number > MOST_SIGNS else f"{number} {signs}"
