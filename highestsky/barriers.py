"""Barriers: high places that stand in all ways of a trip."""

from highestsky.lots import check_can_be
from highestsky.promises import check_bar, check_trip
from highestsky.trips import goal_of, leads_of, start_of


def barrier(lot, trip, bar):
    """A barrier of a trip for a bar, or None."""
    heights = _heights(lot, trip, bar)
    leads = leads_of(trip)
    high = [place for place in leads if heights[place] > bar]
    if _can_pass(trip, leads, high):
        return None
    # On each way that there is the first high place is one of these.
    kept = [place for place in _reached(trip, leads, high) if place in high]
    for place in list(kept):
        others = [other for other in kept if other != place]
        if not _can_pass(trip, leads, others):
            kept = others
    return kept


def is_barrier(lot, trip, bar, value):
    """Whether any value is a list or tuple that is a barrier of a trip for a bar."""
    heights = _heights(lot, trip, bar)
    if not isinstance(value, (list, tuple)) or not all([place in trip.chart for place in value]):
        return False
    if list(value) != sorted(set(value)) or not all([heights[place] > bar for place in value]):
        return False
    leads = leads_of(trip)
    if _can_pass(trip, leads, value):
        return False
    return all([_can_pass(trip, leads, [other for other in value if other != place]) for place in value])


def _heights(lot, trip, bar):
    """The heights in the highest sky of a lot, behind all checks."""
    check_trip(lot, trip)
    check_bar(bar)
    check_can_be(lot)
    return lot.sky.heights()


def _can_pass(trip, leads, stops):
    """Whether a trip has a way without any of some places."""
    goal = goal_of(trip)
    return goal not in stops and goal in _reached(trip, leads, stops)


def _reached(trip, leads, stops):
    """The ascending list of the places on ways of a trip ahead of which none of some places stands."""
    stopped = {place: True for place in stops}
    reached = {start_of(trip): True} if start_of(trip) in leads else {}
    # The places ascend by hours, so all ways to a place are known when its turn comes.
    for place in sorted(leads):
        if place in reached and place not in stopped:
            for other in leads[place]:
                reached[other] = True
    return sorted(reached)
