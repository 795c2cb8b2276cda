"""Gauges: whose sayings may be false, and without how few of them there is a sky."""

from highestsky.errors import TooMany, UnknownGauge
from highestsky.lots import check_can_be

# Of at most so many gauges it is asked which of them are false.
MOST_GAUGES = 8


def gauges(lot):
    """The ascending list of the gauges of the sayings of a lot."""
    return sorted(set([saying.gauge for saying in lot.sayings() if saying.gauge is not None]))


def check_gauges(lot):
    """Raises TooMany for a lot whose sayings have more than MOST_GAUGES gauges."""
    if len(gauges(lot)) > MOST_GAUGES:
        raise TooMany(MOST_GAUGES)


def check_known(lot, gauge):
    """Raises UnknownGauge for any value that is no gauge of a lot."""
    if gauge not in gauges(lot):
        raise UnknownGauge(gauge)


def without_gauges(lot, names):
    """A new lot without the sayings of the gauges of a list."""
    for name in names:
        check_known(lot, name)
    return lot.anew([saying for saying in lot.sayings() if saying.gauge not in names])


def cases_without(lot, many):
    """A dict from the ascending tuples of so many gauges of a lot, ascending, to the lots without them that can be."""
    lots = {names: without_gauges(lot, names) for names in _tuples_of(gauges(lot), many)}
    return {names: other for names, other in lots.items() if other.can_be}


def _tuples_of(names, many):
    """The ascending list of the ascending tuples of so many items of an ascending list."""
    if many == 0:
        return [()]
    return [(name, *rest) for at, name in enumerate(names) for rest in _tuples_of(names[at + 1:], many - 1)]


def fewest_false(lot):
    """The pair of the least number of gauges without which there is a sky, and the list of the tuples of so many."""
    check_gauges(lot)
    check_can_be(without_gauges(lot, gauges(lot)))
    many = 0
    cases = cases_without(lot, many)
    while not cases:
        many += 1
        cases = cases_without(lot, many)
    return (many, list(cases))
