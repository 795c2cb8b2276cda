"""Thin skies: those of a plain lot in which no squall can be less."""

from highestsky.causes import needs_of
from highestsky.errors import OtherChart, Unkept
from highestsky.lots import check_plain
from highestsky.skies import Sky


def is_thin(lot, sky):
    """Whether a sky of a plain lot is thin."""
    # Of a sky that is thin nothing can be taken.
    return thinned(lot, sky) == sky


def thinned(lot, sky):
    """A thin sky of a plain lot that is below a sky of the lot."""
    _check_thinning(lot, sky)
    carriers = _carriers(lot, sky)
    thin = []
    # What a squall must be hangs on the floors alone: a ceiling is kept by each lower sky.
    for place, _ in sky.squalls():
        least = max([0, *[own[place] for own in carriers if list(own) == [place]]])
        carriers = [_lowered_carriers(own, place, least) for own in carriers]
        thin.append((place, least))
    return Sky(sky.chart, thin)


def _check_thinning(lot, sky):
    if sky.chart != lot.chart:
        raise OtherChart()
    check_plain(lot)
    for at, saying in enumerate(lot.sayings()):
        if not saying.kept_by(sky):
            raise Unkept(at)


def _carriers(lot, sky):
    """For each floor of a lot, a dict from the places whose squalls are great enough for it to what it needs there."""
    floors = [part for part in lot.parts() if part.is_floor()]
    return [{place: need for place, need in needs_of(lot.chart, floor) if sky.squall(place) >= need}
            for floor in floors]


def _lowered_carriers(carriers, place, least):
    """The carriers that are left when the squall of a place is the least one."""
    return {other: need for other, need in carriers.items() if other != place or need <= least}
