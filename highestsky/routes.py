"""Ways with the least roughness, by the heights of all places."""

from highestsky.errors import InvalidMeasure

MEASURES = ("greatest", "sum")


def check_measure(by):
    """Raises InvalidMeasure for any value that is no measure of roughness."""
    if by not in MEASURES:
        raise InvalidMeasure(by)


def roughness_of(heights, places, by):
    """The roughness of a list of one or more places by a dict of heights."""
    return _joined([heights[place] for place in places], by)


def _joined(numbers, by):
    return sum(numbers) if by == "sum" else max(numbers)


def least_rests(leads, heights, by):
    """A dict from the places that lead to a goal to the least roughness of a way from there to the goal."""
    rests = {}
    # The later places come first.
    for place, others in leads.items():
        ends = [rests[other] for other in others]
        rests[place] = _joined([heights[place], min(ends)], by) if ends else heights[place]
    return rests


def best_way(leads, heights, by, done):
    """The pair (roughness, way) with the least roughness among the ways to the goal that begin with the places done."""
    rests = least_rests(leads, heights, by)
    way = list(done)
    while leads[way[-1]]:
        _, place = min([(rests[other], other) for other in leads[way[-1]]])
        way.append(place)
    return (roughness_of(heights, way, by), way)
