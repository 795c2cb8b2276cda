"""Verdicts: whether a saying is sure, never or open in a lot, and skies that show it."""

from highestsky.errors import TooMany
from highestsky.lots import check_can_be, check_sayings

# Of at most so many sayings it is asked whether one of them is sure.
MOST_SEVERAL = 6


def verdict(lot, saying):
    """Whether a saying is "sure", "never" or "open" in a lot."""
    _check_saying(lot, saying)
    if first_that_can_be(lot, [[saying]]) is None:
        return "never"
    return "sure" if first_that_can_be(lot, saying.opposites()) is None else "open"


def kept_and_broken(lot, saying):
    """A sky of a lot that keeps a saying, or None, and a sky of the lot that does not, or None."""
    _check_saying(lot, saying)
    return (_sky_of(first_that_can_be(lot, [[saying]])), _sky_of(first_that_can_be(lot, saying.opposites())))


def can_be_with(lot, *sayings):
    """Whether a lot can be with these sayings put to it."""
    return lot.with_sayings(sayings).can_be


def escape(lot, *sayings):
    """A sky of a lot that keeps none of the sayings, or None."""
    _check_several(lot, sayings)
    return _sky_of(_escaped(lot, sayings))


def one_is_sure(lot, *sayings):
    """Whether each sky of a lot keeps at least one of the sayings."""
    _check_several(lot, sayings)
    return _escaped(lot, sayings) is None


def first_that_can_be(lot, several):
    """The first lot that can be with the sayings of one of several lists put to a lot; None if there is none."""
    for sayings in several:
        other = lot.with_sayings(sayings)
        if other.can_be:
            return other
    return None


def _escaped(lot, sayings):
    """A lot that can be, with an opposite of each of the sayings put to a lot that can be; None if there is none."""
    if not sayings:
        return lot
    for opposite in sayings[0].opposites():
        other = lot.with_sayings(opposite)
        found = _escaped(other, sayings[1:]) if other.can_be else None
        if found is not None:
            return found
    return None


def _sky_of(lot):
    return None if lot is None else lot.sky


def _check_saying(lot, saying):
    check_sayings(lot.chart, [saying])
    check_can_be(lot)


def _check_several(lot, sayings):
    check_sayings(lot.chart, sayings)
    if len(sayings) > MOST_SEVERAL:
        raise TooMany(MOST_SEVERAL)
    check_can_be(lot)
