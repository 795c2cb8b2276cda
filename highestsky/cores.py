"""Cores of lots that cannot be, needless sayings, and lots that are compared by their skies."""

from highestsky.errors import HasSky, OtherChart
from highestsky.lots import Lot, check_can_be
from highestsky.papers import short_paper
from highestsky.verdicts import first_that_can_be
from highestsky.words import is_number


def core(lot):
    """A core of a lot: indexes of sayings that cannot be together, and can be without any one of them."""
    if lot.can_be:
        raise HasSky()
    sayings = lot.sayings()
    kept = _indexes_in_paper(lot)
    for at in list(kept):
        others = [index for index in kept if index != at]
        if not lot.could_be([sayings[index] for index in others]):
            kept = others
    return kept


def _indexes_in_paper(lot):
    """The ascending list of the indexes of sayings whose parts stand in a paper that the lot cannot be."""
    # These sayings alone cannot be, so that a core need not be looked for among the others.
    _, lines, end = short_paper(lot, lot.paper())
    parts = [saying.parts() for saying in lot.sayings()]
    wanted = [*[ceiling for ceiling, limit in lines], end]
    return sorted(set([_first_with(parts, part) for part in wanted]))


def _first_with(parts, wanted):
    """The index of the first list of parts that has a part."""
    return [at for at, own in enumerate(parts) if wanted in own][0]


def is_core(lot, value):
    """Whether any value is a list or tuple that is a core of a lot."""
    if not isinstance(value, (list, tuple)) or not all([is_number(at, 0, len(lot) - 1) for at in value]):
        return False
    if list(value) != sorted(set(value)):
        return False
    sayings = lot.sayings()
    chosen = [sayings[at] for at in value]
    if lot.could_be(chosen):
        return False
    return all([lot.could_be(_without(chosen, at)) for at in range(len(chosen))])


def _without(items, at):
    return [*items[:at], *items[at + 1:]]


def needless(lot):
    """The ascending list of the indexes of the needless sayings."""
    check_can_be(lot)
    sayings = lot.sayings()
    return [at for at, saying in enumerate(sayings) if _is_sure(lot, _without(sayings, at), saying)]


def _is_sure(lot, sayings, saying):
    """Whether a saying is sure in the lot of just these sayings on the chart of a lot, if that can be."""
    return not any([lot.could_be([*sayings, *opposite]) for opposite in saying.opposites()])


def least_lot(lot):
    """A new lot with the same skies, which has some of the sayings and no needless one."""
    check_can_be(lot)
    kept = lot.sayings()
    # What is not needless among more sayings is not needless among fewer, so each one is asked but once.
    for at in range(len(lot) - 1, -1, -1):
        others = _without(kept, at)
        if _is_sure(lot, others, kept[at]):
            kept = others
    # A lot may have more sayings than can be put to it.
    return Lot(lot.chart).with_sayings(kept)


def is_stronger(lot, other):
    """Whether each sky of a lot is a sky of another one."""
    _check_charts(lot, other)
    return _apart(lot, other) is None


def are_alike(lot, other):
    """Whether two lots have the same skies."""
    _check_charts(lot, other)
    return _apart(lot, other) is None and _apart(other, lot) is None


def parting_sky(lot, other):
    """A sky of just one of two lots, or None."""
    _check_charts(lot, other)
    found = _apart(lot, other)
    if found is None:
        found = _apart(other, lot)
    return None if found is None else found.sky


def _check_charts(lot, other):
    if lot.chart != other.chart:
        raise OtherChart()


def _apart(lot, other):
    """A lot that can be, whose skies are all skies of a lot and none of another lot; None if there is no such sky."""
    return first_that_can_be(lot, [opposite for saying in other.sayings() for opposite in saying.opposites()])
