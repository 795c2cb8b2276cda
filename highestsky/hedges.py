"""Hedges: what a ship can be sure of while nobody knows which gauges are false."""

from highestsky.errors import InvalidNumber, NoCase, OtherChart
from highestsky.routes import best_way, least_rests
from highestsky.trips import leads_of, start_of
from highestsky.words import is_number

BY = "greatest"


def blind_promise(doubt, trip):
    """The pair (promise, way) of a way whose greatest roughness over all cases is least; None without a way."""
    leads = _leads(doubt, trip)
    start = start_of(trip)
    return best_way(leads, doubt.worst_heights(), BY, [start]) if start in leads else None


def seeing_promise(doubt, trip):
    """The greatest promise of a case; None without a way."""
    leads = _leads(doubt, trip)
    start = start_of(trip)
    return max([rests[start] for rests in _rests(doubt, leads)]) if start in leads else None


def informed_promise(doubt, trip, hour):
    """What a ship can be sure of that is told a case at an hour; None without a way."""
    leads = _leads(doubt, trip)
    if not is_number(hour, trip.first, trip.last):
        raise InvalidNumber(hour)
    if start_of(trip) not in leads:
        return None
    reached = _reached(leads, doubt.worst_heights(), start_of(trip))
    told = [place for place in reached if place[0] == hour]
    rests = _rests(doubt, leads)
    return min([max([reached[place], *[rest[place] for rest in rests]]) for place in told])


def worth_of_seeing(doubt, trip):
    """The blind promise minus the seeing promise; None without a way."""
    blind = blind_promise(doubt, trip)
    return None if blind is None else blind[0] - seeing_promise(doubt, trip)


def _leads(doubt, trip):
    """The places that lead to the goal, as of leads_of, behind all checks."""
    if doubt.chart != trip.chart:
        raise OtherChart()
    if not doubt.can_be:
        raise NoCase()
    return leads_of(trip)


def _rests(doubt, leads):
    """For each case, a dict from the places to the least roughness from there to the goal."""
    return [least_rests(leads, doubt.case_sky(names).heights(), BY) for names in doubt.cases()]


def _reached(leads, heights, start):
    """A dict from the places on ways from a start to the least roughness of a way from the start to there."""
    reached = {start: heights[start]}
    # The places ascend by hours, so all ways to a place are known when its turn comes.
    for place in sorted(leads):
        if place in reached:
            for other in leads[place]:
                number = max(reached[place], heights[other])
                reached[other] = min(number, reached.get(other, number))
    return reached
