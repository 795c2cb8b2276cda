"""Regions as they are passed, how wrong ones are refused, and how they are kept."""

from highestsky.errors import InvalidRegion
from highestsky.words import is_list, is_place

MOST_PLACES = 40


def check_places(region):
    """Raises InvalidRegion unless any value is a region, on a chart or not."""
    if not is_list(region, 1, MOST_PLACES):
        raise InvalidRegion(-1)
    for at, place in enumerate(region):
        if not is_place(place):
            raise InvalidRegion(at)


def check_region(chart, region):
    """Raises InvalidRegion unless any value is a region of places of a chart."""
    if not is_list(region, 1, MOST_PLACES):
        raise InvalidRegion(-1)
    for at, place in enumerate(region):
        if place not in chart:
            raise InvalidRegion(at)


def kept_region(region):
    """The ascending tuple of the places of a region."""
    return tuple(sorted(set(region)))
