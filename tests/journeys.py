"""Trips of small charts with all of their ways, found by the words of [35] alone."""

import random

from highestsky.charts import Chart
from highestsky.trips import GuardedTrip, Trip
from tests.helpers import CALM_WIND, places_of, random_chart


def is_next(place, other):
    """Whether a ship can be at the other place one hour after a place."""
    far = abs(place[1] - other[1]) + abs(place[2] - other[2])
    return other[0] == place[0] + 1 and far <= 1


def all_ways(chart, start, goal, first, last, forbidden=()):
    """The ascending list of all ways, as lists, from cell to cell."""
    places = places_of(chart.rows(), chart.winds())
    found = [[(first, *start)]]
    for _ in range(last - first):
        found = [[*way, place] for way in found for place in places if is_next(way[-1], place)]
    return sorted(way for way in found if way[-1][1:] == goal and not set(way) & set(forbidden))


class Journey:
    """A trip, guarded or not, with all of its ways and what it was made of."""

    def __init__(self, chart, start, goal, first, last, forbidden=None):
        self.chart, self.start, self.goal, self.first, self.last = chart, start, goal, first, last
        self.forbidden = forbidden
        if forbidden is None:
            self.trip = Trip(chart, start, goal, first=first, last=last)
        else:
            self.trip = GuardedTrip(chart, start, goal, forbidden, first=first, last=last)
        self.ways = all_ways(chart, start, goal, first, last, forbidden or ())

    def ways_until(self, hour):
        """All ways from the start to the goal at an hour without forbidden places."""
        return all_ways(self.chart, self.start, self.goal, self.first, hour, self.forbidden or ())


def random_journey(maker, chart, least=0):
    """A journey on a chart with so many hours at least, if there are so many."""
    first = maker.randint(0, max(0, chart.last - least))
    last = maker.randint(min(chart.last, first + least), chart.last)
    start = maker.choice(chart.cells())
    goal = maker.choice([start, *chart.cells()])
    forbidden = None
    if maker.random() < 0.5:
        forbidden = maker.choices(chart.places(), k=maker.randint(0, len(chart.places()) // 4))
    return Journey(chart, start, goal, first, last, forbidden)


def journeys(seed, many):
    """Pairs of a random maker and a journey, also on charts with land and without winds."""
    maker = random.Random(seed)
    for at in range(many):
        chart = open_chart(maker.randint(2, 3), maker.randint(1, 4)) if at < many // 4 else random_chart(maker, 3, 4)
        yield maker, random_journey(maker, chart, maker.randint(0, 3))


def open_chart(side=3, hours=4, top=9):
    return Chart([[0] * side for _ in range(side)], [CALM_WIND] * hours, top=top)
