"""Charts: rows of water and land, with the winds of their hours and the steps that these let pass."""

from highestsky.charttexts import chart_rows_text, read_parts
from highestsky.errors import InvalidChart, InvalidText, InvalidTop, InvalidWind, OnLand, UnknownPlace
from highestsky.winds import DIRECTIONS, is_toll, is_wind, moved_cell
from highestsky.words import MOST_TOLL, is_cell, is_list, is_number, is_place


class Chart:
    """A chart, which never changes."""

    MOST_ROWS = 6
    MOST_HOURS = 8

    def __init__(self, rows, winds=(), *, top=9):
        _check_rows(rows)
        _check_winds(winds)
        if not is_number(top, 1, MOST_TOLL):
            raise InvalidTop(top)
        self.top = top
        self.last = len(winds)
        self._rows = tuple([tuple(row) for row in rows])
        self._winds = tuple(winds)
        self._drags = _drags_of(rows)
        places = [(hour, *cell) for hour in range(len(winds) + 1) for cell in self._drags]
        steps = _steps_of(self._drags, winds)
        self._departures = _gathered(places, [(start, (end, loss)) for start, end, loss in steps])
        self._arrivals = _gathered(places, [(end, (start, loss)) for start, end, loss in steps])

    def rows(self):
        """The list of the lists of items: the drags, and None for land."""
        return [list(row) for row in self._rows]

    def winds(self):
        """The list of the winds, the one of hour 1 first."""
        return list(self._winds)

    def cells(self):
        """The ascending list of the cells of water."""
        return list(self._drags)

    def drag(self, cell):
        """The drag of a cell of water."""
        self.check_water(cell)
        return self._drags[cell]

    def places(self):
        """The ascending list of the places of the chart."""
        return list(self._arrivals)

    def neighbours(self, cell):
        """The ascending list of the cells of water beside a cell of water."""
        self.check_water(cell)
        around = [moved_cell(cell, direction) for direction in DIRECTIONS if direction != "stay"]
        return sorted([other for other in around if other in self._drags])

    def steps_from(self, place):
        """The ascending list of the pairs (place, loss) of the steps that lead from a place."""
        self.check_place(place)
        return list(self._departures[place])

    def steps_to(self, place):
        """The ascending list of the pairs (place, loss) of the steps that lead to a place."""
        self.check_place(place)
        return list(self._arrivals[place])

    def arrivals(self):
        """A dict from all places, ascending, to the tuples of the pairs as of steps_to."""
        return {place: steps for place, steps in self._arrivals.items()}

    def text(self):
        """The text of the chart."""
        return chart_rows_text(self._rows, self._winds, self.top)

    @staticmethod
    def read(text):
        """The chart with a text."""
        rows, winds, top, lines = read_parts(text)
        if len(text.split("\n")) != lines + 1 or not text.endswith("\n"):
            raise InvalidText(lines, "form")
        return Chart(rows, winds, top=top)

    def check_place(self, place):
        """Raises UnknownPlace for any value that is no place of the chart."""
        if place not in self:
            raise UnknownPlace(place)

    def check_water(self, cell):
        """Raises OnLand for any value that is no cell of water of the chart."""
        if not is_cell(cell) or cell not in self._drags:
            raise OnLand(cell)

    def __contains__(self, x):
        return is_place(x) and x in self._arrivals

    def __eq__(self, other):
        return (isinstance(other, Chart) and self._rows == other._rows and self._winds == other._winds
                and self.top == other.top)

    def __len__(self):
        return len(self._drags)

    def __repr__(self):
        return f"Chart({len(self._rows)} by {len(self._rows[0])}, last hour {self.last})"

    def __str__(self):
        return str(self.text())


def _check_rows(rows):
    if not is_list(rows, 1, Chart.MOST_ROWS):
        raise InvalidChart(-1, -1)
    for at, row in enumerate(rows):
        # The most columns are as many as the most rows.
        if not is_list(row, 1, Chart.MOST_ROWS) or len(row) != len(rows[0]):
            raise InvalidChart(at, -1)
        for column, drag in enumerate(row):
            if drag is not None and not is_toll(drag):
                raise InvalidChart(at, column)
    if not _drags_of(rows):
        raise InvalidChart(-1, -1)


def _check_winds(winds):
    if not is_list(winds, 0, Chart.MOST_HOURS):
        raise InvalidWind(-1)
    for at, wind in enumerate(winds):
        if not is_wind(wind):
            raise InvalidWind(at)


def _drags_of(rows):
    """A dict from the cells of water, ascending, to their drags."""
    drags = {}
    for at, row in enumerate(rows):
        for column, drag in enumerate(row):
            if drag is not None:
                drags[(at, column)] = drag
    return drags


def _steps_of(drags, winds):
    """The list of the triples (place, next place, loss) of all steps."""
    steps = []
    for hour, wind in enumerate(winds):
        tolls = [(direction, toll) for direction, toll in zip(DIRECTIONS, wind) if toll is not None]
        for cell in drags:
            for direction, toll in tolls:
                end = moved_cell(cell, direction)
                if end in drags:
                    steps.append(((hour, *cell), (hour + 1, *end), drags[end] + toll))
    return steps


def _gathered(places, entries):
    """A dict from each place to the ascending tuple of the pairs that stand beside it in entries."""
    found = {place: [] for place in places}
    for place, pair in entries:
        found[place].append(pair)
    return {place: tuple(sorted(pairs)) for place, pairs in found.items()}
