"""Changed charts: mirrored, delayed by an hour, and multiplied."""

from highestsky.charts import Chart
from highestsky.errors import InvalidMirror, InvalidNumber, TooMany
from highestsky.skies import Sky
from highestsky.words import MOST_TOLL, is_number

MIRRORS = ("rows", "columns", "cross")

# For each mirror, the places in the old wind of the items of the new one.
WIND_ORDERS = {"rows": (0, 3, 2, 1, 4), "columns": (0, 1, 4, 3, 2), "cross": (0, 4, 3, 2, 1)}


def check_mirror(how):
    """Raises InvalidMirror for any value that is no mirror."""
    if how not in MIRRORS:
        raise InvalidMirror(how)


def mirrored(chart, how):
    """The chart that a mirror makes of a chart."""
    check_mirror(how)
    order = WIND_ORDERS[how]
    winds = [tuple([wind[at] for at in order]) for wind in chart.winds()]
    return Chart(_mirrored_rows(chart.rows(), how), winds, top=chart.top)


def _mirrored_rows(rows, how):
    if how == "rows":
        return rows[::-1]
    if how == "columns":
        return [row[::-1] for row in rows]
    return [[row[column] for row in rows] for column in range(len(rows[0]))]


def mirrored_place(chart, place, how):
    """The place to which a mirror moves a place of a chart."""
    check_mirror(how)
    chart.check_place(place)
    rows = chart.rows()
    hour, row, column = place
    if how == "rows":
        return (hour, len(rows) - 1 - row, column)
    if how == "columns":
        return (hour, row, len(rows[0]) - 1 - column)
    return (hour, column, row)


def mirrored_sky(sky, how):
    """The sky of the mirrored chart with the moved squalls."""
    chart = mirrored(sky.chart, how)
    return Sky(chart, [(mirrored_place(sky.chart, place, how), number) for place, number in sky.squalls()])


def delayed(chart, wind):
    """The chart with a further wind ahead of all others."""
    if chart.last >= Chart.MOST_HOURS:
        raise TooMany(Chart.MOST_HOURS)
    # A wrong wind is the first one here, so the chart itself refuses it with the index 0.
    return Chart(chart.rows(), [wind, *chart.winds()], top=chart.top)


def delayed_sky(sky, wind):
    """The sky of the delayed chart with the moved squalls, 0 at hour 0."""
    chart = delayed(sky.chart, wind)
    return Sky(chart, [((place[0] + 1, *place[1:]), number) for place, number in sky.squalls()])


def times(chart, factor):
    """The chart with all drags, all tolls and the top multiplied."""
    if not is_number(factor, 1, 9):
        raise InvalidNumber(factor)
    rows = [_multiplied(row, factor) for row in chart.rows()]
    winds = [tuple(_multiplied(wind, factor)) for wind in chart.winds()]
    top = chart.top * factor
    for items in [[top], *rows, *winds]:
        if not all([item is None or item <= MOST_TOLL for item in items]):
            raise TooMany(MOST_TOLL)
    return Chart(rows, winds, top=top)


def _multiplied(items, factor):
    return [None if item is None else item * factor for item in items]
