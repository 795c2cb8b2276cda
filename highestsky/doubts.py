"""Doubts: lots of whose gauges so many may be false."""

from highestsky.errors import InvalidNumber, NoCase, UnknownCase
from highestsky.forecasts import height_span
from highestsky.gauges import cases_without, check_gauges, check_known, gauges
from highestsky.lots import check_sayings
from highestsky.regions import check_region
from highestsky.verdicts import verdict
from highestsky.words import is_number

MOST_ALLOWED = 2


class Doubt:
    """A doubt, with a lot of its own, and a lot for each of its cases."""

    def __init__(self, lot, *, allowed=1):
        _check_allowed(allowed)
        check_gauges(lot)
        self.chart = lot.chart
        self._lot = lot.twin()
        self._allowed = allowed
        self._lots = {}
        self._find_cases()

    @property
    def allowed(self):
        """How many gauges may be false."""
        return self._allowed

    @allowed.setter
    def allowed(self, value):
        self.change(value)

    @property
    def can_be(self):
        """Whether there is a case."""
        return len(self._lots) > 0

    def change(self, allowed):
        """Allows another number of false gauges."""
        _check_allowed(allowed)
        self._allowed = allowed
        self._find_cases()

    def _find_cases(self):
        """Finds the cases; they are known from then on, so that nothing is worked out where a doubt is only read."""
        self._lots = cases_without(self._lot, min(self._allowed, len(gauges(self._lot))))

    def lot(self):
        """A twin of the lot of the doubt."""
        return self._lot.twin()

    def cases(self):
        """The ascending list of the cases."""
        return list(self._lots)

    def case_lot(self, names):
        """A new lot, that of a case."""
        self._check_case(names)
        return self._lots[names].twin()

    def case_sky(self, names):
        """The highest sky of the lot of a case."""
        self._check_case(names)
        return self._lots[names].sky

    def _check_case(self, names):
        if names not in self.cases():
            raise UnknownCase(names)

    def put(self, *sayings):
        """Puts sayings behind the others, all or none."""
        other = self._lot.twin()
        other.put(*sayings)
        check_gauges(other)
        self._lot = other
        self._find_cases()

    def take_back(self, at):
        """Takes the saying with an index off."""
        self._lot.take_back(at)
        self._find_cases()

    def verdict(self, saying):
        """Whether a saying is "sure", "never" or "open" over all skies of the doubt."""
        check_sayings(self.chart, [saying])
        self._check_can_be()
        words = [verdict(lot, saying) for lot in self._lots.values()]
        return words[0] if len(set(words)) == 1 else "open"

    def height_span(self, region):
        """The pair of the least and the greatest height of a region over all cases."""
        check_region(self.chart, region)
        self._check_can_be()
        spans = [height_span(lot, region) for lot in self._lots.values()]
        return (min([least for least, greatest in spans]), max([greatest for least, greatest in spans]))

    def worst_heights(self):
        """A dict from all places to their greatest heights over all cases."""
        self._check_can_be()
        skies = [lot.sky for lot in self._lots.values()]
        return {place: max([sky.height(place) for sky in skies]) for place in self.chart.places()}

    def surely_false(self, gauge):
        """Whether no sky that is possible without so many gauges keeps all sayings of a gauge."""
        check_known(self._lot, gauge)
        self._check_can_be()
        said = [saying for saying in self._lot.sayings() if saying.gauge == gauge]
        return not any([lot.with_sayings(said).can_be for lot in self._lots.values()])

    def _check_can_be(self):
        if not self.can_be:
            raise NoCase()

    def twin(self):
        """An independent doubt in the same state."""
        return Doubt(self._lot, allowed=self._allowed)

    def __len__(self):
        return len(self._lots)

    def __bool__(self):
        return True

    def __repr__(self):
        return f"Doubt({len(self._lots)} cases)"


def _check_allowed(allowed):
    if not is_number(allowed, 0, MOST_ALLOWED):
        raise InvalidNumber(allowed)
