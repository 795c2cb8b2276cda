"""Promises: how rough ways are, and what a ship can be sure of beforehand."""

from highestsky.errors import InvalidNumber, OtherChart
from highestsky.lots import check_can_be
from highestsky.routes import best_way, check_measure, roughness_of
from highestsky.sayings import at_most, exactly
from highestsky.trips import check_way, leads_of, start_of
from highestsky.words import MOST_TOLL, is_number


def roughness(sky, way, *, by="greatest"):
    """The roughness of a way in a sky."""
    check_way(sky.chart, way)
    check_measure(by)
    return roughness_of(sky.heights(), way, by)


def calmest(lot, trip, *, by="greatest"):
    """The pair (promise, way) of a calmest way; None if a trip has no way."""
    check_measure(by)
    check_trip(lot, trip)
    check_can_be(lot)
    leads = leads_of(trip)
    start = start_of(trip)
    return best_way(leads, lot.sky.heights(), by, [start]) if start in leads else None


def check_trip(lot, trip):
    """Raises OtherChart unless the charts of a lot and of a trip are equal."""
    if lot.chart != trip.chart:
        raise OtherChart()


def check_bar(bar):
    """Raises InvalidNumber for any value that is no bar."""
    if not is_number(bar, 0, MOST_TOLL):
        raise InvalidNumber(bar)


def earliest(lot, trip, bar):
    """The pair (hour, way) of a surely calm way from the start to the goal with the least hour at its end, or None."""
    check_trip(lot, trip)
    check_bar(bar)
    check_can_be(lot)
    sources = _calm_sources(trip, lot.sky.heights(), bar)
    ends = [place for place in sources if place[1:] == trip.goal]
    if not ends:
        return None
    way = [min(ends)]
    while sources[way[-1]] is not None:
        way.append(sources[way[-1]])
    return (way[0][0], way[::-1])


def _calm_sources(trip, heights, bar):
    """A dict from the places to which calm ways lead from the start to the places ahead of them, None at the start."""
    start = start_of(trip)
    sources = {start: None} if trip.may_be(start) and heights[start] <= bar else {}
    # The places ascend by hours, so all ways to a place are known when its turn comes.
    for place in trip.chart.places():
        if place in sources:
            for other in trip.next_places(place):
                if heights[other] <= bar:
                    sources[other] = place
    return sources


def surely_calm(lot, way, bar):
    """Whether in each sky of a lot all places of a way have at most the height of a bar."""
    _check_calm(lot, way, bar)
    return lot.sky.region_height(way) <= bar


def possibly_calm(lot, way, bar):
    """Whether in some sky of a lot all places of a way have at most the height of a bar."""
    _check_calm(lot, way, bar)
    return lot.with_sayings([at_most(way, bar)]).can_be


def _check_calm(lot, way, bar):
    check_way(lot.chart, way)
    check_bar(bar)
    check_can_be(lot)


def ship_log(sky, way, *, gauge=None):
    """The list of the sayings of the heights that a ship meets on a way in a sky."""
    check_way(sky.chart, way)
    # The sayings themselves refuse what is no gauge.
    return [exactly([place], sky.height(place), gauge=gauge) for place in way]
