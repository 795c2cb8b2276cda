"""Trips: from where to where a ship goes, at which hours, and on which ways."""

from highestsky.errors import InvalidNumber, InvalidRegion, InvalidWay, UnknownPlace
from highestsky.words import is_list, is_number

# A guarded trip is told at most so many forbidden places.
MOST_FORBIDDEN = 400


def check_way(chart, way):
    """Raises InvalidWay for any value that is no way on a chart."""
    if not isinstance(way, (list, tuple)) or not way:
        raise InvalidWay(-1)
    for at, place in enumerate(way):
        if place not in chart:
            raise InvalidWay(at)
        if at > 0 and place not in places_after(chart, way[at - 1]):
            raise InvalidWay(at)


def places_after(chart, place):
    """The ascending list of the places, perhaps behind the last hour, at which a ship can be an hour after a place."""
    hour, *cell = place
    return [(hour + 1, *other) for other in sorted([tuple(cell), *chart.neighbours(tuple(cell))])]


class Trip:
    """A trip, which never changes."""

    def __init__(self, chart, start, goal, *, first=0, last=None):
        chart.check_water(start)
        chart.check_water(goal)
        if not is_number(first, 0, chart.last):
            raise InvalidNumber(first)
        if last is not None and not is_number(last, first, chart.last):
            raise InvalidNumber(last)
        self.chart = chart
        self.start = start
        self.goal = goal
        self.first = first
        self.last = chart.last if last is None else last

    def next_places(self, place):
        """The ascending list of the places at which the ship can be one hour after a place."""
        if not self._is_within(place):
            raise UnknownPlace(place)
        return [] if place[0] == self.last else places_after(self.chart, place)

    def may_be(self, place):
        """Whether any value is a place at which a ship may be on the trip."""
        return self._is_within(place)

    def _is_within(self, place):
        """Whether any value is a place of the chart at an hour of the trip."""
        return place in self.chart and self.first <= place[0] <= self.last


class GuardedTrip(Trip):
    """A trip with places at which the ship must not be."""

    def __init__(self, chart, start, goal, forbidden, *, first=0, last=None):
        super().__init__(chart, start, goal, first=first, last=last)
        if not is_list(forbidden, 0, MOST_FORBIDDEN):
            raise InvalidRegion(-1)
        for at, place in enumerate(forbidden):
            if place not in chart:
                raise InvalidRegion(at)
        self._forbidden = {place: True for place in forbidden}

    def forbidden(self):
        """The ascending list of the forbidden places."""
        return sorted(self._forbidden)

    def next_places(self, place):
        """The ascending list of the places at which the ship can be one hour after a place, which may be forbidden."""
        places = super().next_places(place)
        return [other for other in places if other not in self._forbidden]

    def may_be(self, place):
        """Whether any value is a place at which a ship may be on the trip."""
        return super().may_be(place) and place not in self._forbidden


def start_of(trip):
    """The place at which all ways of a trip begin."""
    return (trip.first, *trip.start)


def goal_of(trip):
    """The place at which all ways of a trip end."""
    return (trip.last, *trip.goal)


def is_way(trip, value):
    """Whether any value is a list or tuple that is a way of a trip."""
    try:
        check_way(trip.chart, value)
    except InvalidWay:
        return False
    if value[0] != start_of(trip) or value[-1] != goal_of(trip):
        return False
    return all([trip.may_be(place) for place in value])


def leads_of(trip):
    """A dict from the places from which the goal can be come to, the last ones first, to the lists of the next ones.

    The place at the goal, which has no next one, stands in it, too, unless it is forbidden.
    """
    goal = goal_of(trip)
    leads = {}
    for place in sorted(trip.chart.places(), reverse=True):
        if trip.may_be(place):
            others = [other for other in trip.next_places(place) if other in leads]
            if others or place == goal:
                leads[place] = others
    return leads


def ways(trip):
    """All ways of a trip, in ascending order."""
    leads = leads_of(trip)
    waiting = [[start_of(trip)]] if start_of(trip) in leads else []
    while waiting:
        way = waiting.pop()
        if way[-1][0] == trip.last:
            yield way
        else:
            # The least of the next places comes to stand last, and is taken first.
            waiting.extend([[*way, place] for place in leads[way[-1]][::-1]])


def many_ways(trip):
    """How many ways a trip has."""
    counts = {}
    for place, others in leads_of(trip).items():
        counts[place] = sum([counts[other] for other in others]) if others else 1
    return counts.get(start_of(trip), 0)
