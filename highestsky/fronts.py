"""Fronts: the heights of one hour, and how they lead to those of the next one."""

from highestsky.errors import Ended, InvalidHeights, InvalidNumber
from highestsky.words import is_cell, is_number


class Front:
    """A front of a sky, which goes on from hour to hour."""

    def __init__(self, sky):
        self._sky = sky
        self._hour = 0
        self._heights = {cell: sky.squall((0, *cell)) for cell in sky.chart.cells()}

    @property
    def hour(self):
        """The present hour."""
        return self._hour

    def heights(self):
        """A dict from the cells of water to their heights at the present hour."""
        return {cell: height for cell, height in self._heights.items()}

    def forward(self):
        """Goes on to the next hour."""
        if self._hour == self._sky.chart.last:
            raise Ended()
        self._heights = {cell: self._next_height(cell) for cell in self._heights}
        self._hour += 1

    def twin(self):
        """An independent front in the same state."""
        return front_at(self._sky, self._hour, self._heights)

    def _stand(self, hour, heights):
        """Stands at an hour with the heights of a dict, which are right for the chart."""
        self._hour = hour
        self._heights = {cell: heights[cell] for cell in self._sky.chart.cells()}

    def _next_height(self, cell):
        """The height of a cell at the next hour."""
        place = (self._hour + 1, *cell)
        swell = [self._heights[start[1:]] - loss for start, loss in self._sky.chart.steps_to(place)]
        return max([self._sky.squall(place), *swell])

    def __repr__(self):
        return f"Front(hour {self._hour})"


def front_at(sky, hour, heights):
    """A front that stands at an hour with the heights of a dict."""
    if not is_number(hour, 0, sky.chart.last):
        raise InvalidNumber(hour)
    _check_heights(sky.chart, heights)
    front = Front(sky)
    front._stand(hour, heights)
    return front


def _check_heights(chart, heights):
    if not isinstance(heights, dict):
        raise InvalidHeights()
    # A key such as (0, True) equals a cell, but is none.
    if not all([is_cell(cell) for cell in heights]) or sorted(heights) != chart.cells():
        raise InvalidHeights()
    if not all([is_number(height, 0, chart.top) for height in heights.values()]):
        raise InvalidHeights()


def front_walk(sky):
    """The pairs (hour, heights) of all hours, in order."""
    front = Front(sky)
    yield (0, front.heights())
    for _ in range(sky.chart.last):
        front.forward()
        yield (front.hour, front.heights())
