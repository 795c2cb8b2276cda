"""Skies: the squalls of all places of a chart, and the heights of the swell that they raise."""

from highestsky.errors import InvalidNumber, InvalidSquall, OtherChart
from highestsky.regions import check_region
from highestsky.words import is_number


class Sky:
    """A sky of a chart, which never changes."""

    def __init__(self, chart, squalls=()):
        _check_squalls(chart, squalls)
        self.chart = chart
        self._squalls = _greatest_squalls(chart, squalls)
        self._heights = _heights_of(chart, self._squalls)

    def squall(self, place):
        """The squall of a place."""
        self.chart.check_place(place)
        return self._squalls[place]

    def height(self, place):
        """The height of a place."""
        self.chart.check_place(place)
        return self._heights[place]

    def region_height(self, region):
        """The greatest height of the places of a region."""
        check_region(self.chart, region)
        return max([self._heights[place] for place in region])

    def squalls(self):
        """The ascending list of the pairs (place, number) of the squalls above 0."""
        return [(place, number) for place, number in self._squalls.items() if number > 0]

    def heights(self):
        """A dict from all places to their heights."""
        return {place: height for place, height in self._heights.items()}

    def with_squall(self, place, number):
        """The sky with this squall at a place, all others as they are."""
        self.chart.check_place(place)
        if not is_number(number, 0, self.chart.top):
            raise InvalidNumber(number)
        others = [pair for pair in self.squalls() if pair[0] != place]
        return Sky(self.chart, [*others, (place, number)])

    @staticmethod
    def full(chart):
        """The sky that has the top everywhere."""
        return Sky(chart, [(place, chart.top) for place in chart.places()])

    def is_below(self, other):
        """Whether no squall is greater than that of another sky of an equal chart."""
        self._check_other(other)
        return all([number <= other.squall(place) for place, number in self.squalls()])

    def _check_other(self, other):
        if not isinstance(other, Sky) or self.chart != other.chart:
            raise OtherChart()

    def __or__(self, other):
        self._check_other(other)
        # Of several squalls for one place the greatest one counts.
        return Sky(self.chart, self.squalls() + other.squalls())

    def __getitem__(self, at):
        return self.height(at)

    def __iter__(self):
        raise TypeError("a sky is not iterated over")

    def __eq__(self, other):
        return isinstance(other, Sky) and self.chart == other.chart and self._squalls == other._squalls

    def __len__(self):
        return len(self.squalls())

    def __bool__(self):
        return True

    def __repr__(self):
        return f"Sky({len(self.squalls())} squalls)"


def _check_squalls(chart, squalls):
    if not isinstance(squalls, (list, tuple)):
        raise InvalidSquall(-1)
    for at, pair in enumerate(squalls):
        if not isinstance(pair, tuple) or len(pair) != 2:
            raise InvalidSquall(at)
        if pair[0] not in chart or not is_number(pair[1], 0, chart.top):
            raise InvalidSquall(at)


def _greatest_squalls(chart, squalls):
    """A dict from all places, ascending, to the greatest number beside each, or 0."""
    table = {place: 0 for place in chart.places()}
    for place, number in squalls:
        table[place] = max(table[place], number)
    return table


def _heights_of(chart, squalls):
    """A dict from all places, ascending, to their heights."""
    heights = {}
    # The places ascend by hours, so the places from which steps lead have their heights already.
    for place, steps in chart.arrivals().items():
        heights[place] = max([squalls[place], *[heights[start] - loss for start, loss in steps]])
    return heights
