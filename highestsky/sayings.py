"""Sayings: what is said of heights and squalls, by a gauge or by nobody in particular."""

from highestsky.errors import InvalidGauge, InvalidNumber, InvalidPlace, OffChart
from highestsky.mirrors import check_mirror, mirrored_place
from highestsky.placetexts import region_text
from highestsky.regions import check_places, kept_region
from highestsky.words import is_name, is_number, is_place

KINDS = ("atmost", "atleast", "exactly", "under", "level", "ifthen", "squallmost", "squallleast")

CEILINGS = ("atmost", "under", "ifthen", "squallmost")
FLOORS = ("atleast", "squallleast")
PLAIN = ("atmost", "atleast", "exactly", "squallmost", "squallleast")

# The least and the greatest number of each kind.
BOUNDS = {
    "atmost": (0, 99), "atleast": (1, 100), "exactly": (0, 99), "under": (-100, 99), "level": (-99, 99),
    "ifthen": (1, 100), "squallmost": (0, 99), "squallleast": (1, 100),
}

# The kinds whose opposites have the same region and the number beside theirs.
OPPOSITE_KINDS = {
    "atmost": "atleast", "atleast": "atmost", "squallmost": "squallleast", "squallleast": "squallmost",
}


class Saying:
    """A saying, which never changes; the functions of this module make it."""

    def __init__(self, kind, regions, numbers, gauge):
        self.kind = kind
        self.gauge = gauge
        self._regions = tuple([kept_region(region) for region in regions])
        self._numbers = tuple(numbers)

    def numbers(self):
        """The list of the numbers, amount ahead of least."""
        return list(self._numbers)

    def regions(self):
        """The list of the kept regions; the place of a squall is a region of one place."""
        return list(self._regions)

    def parts(self):
        """The list of the simple sayings that a sky keeps exactly if it keeps this one."""
        number = self._numbers[0]
        if self.kind == "exactly":
            kinds = ["atmost", "atleast"] if number > 0 else ["atmost"]
            return [Saying(kind, self._regions, [number], self.gauge) for kind in kinds]
        if self.kind == "level":
            back = Saying("under", self._regions[::-1], [-number], self.gauge)
            return [Saying("under", self._regions, [number], self.gauge), back]
        return [self]

    def opposites(self):
        """The list of tuples of simple sayings; a sky that does not keep this one keeps just one tuple."""
        # A sky below the last part comes ahead of one above the first part.
        return [part._opposite() for part in self.parts()[::-1]]

    def _opposite(self):
        """The tuple of the sayings that a sky keeps exactly if it does not keep this simple one."""
        number = self._numbers[0]
        if self.kind == "under":
            return (Saying("under", self._regions[::-1], [-number - 1], None),)
        if self.kind == "ifthen":
            region, other = self._regions
            return (at_least(region, number), at_most(other, self._numbers[1] - 1))
        beside = number + 1 if self.is_ceiling() else number - 1
        return (Saying(OPPOSITE_KINDS[self.kind], self._regions, [beside], None),)

    def is_simple(self):
        """Whether the saying is its own and only part."""
        return self.is_ceiling() or self.is_floor()

    def is_ceiling(self):
        """Whether the higher one of two skies keeps the saying if both do."""
        return self.kind in CEILINGS

    def is_floor(self):
        """Whether the saying asks for so much at least, and for nothing else."""
        return self.kind in FLOORS

    def is_plain(self):
        """Whether the saying speaks of one region and of fixed numbers."""
        return self.kind in PLAIN

    def is_on(self, chart):
        """Whether all places of the saying are places of a chart."""
        return all([place in chart for region in self._regions for place in region])

    def check_chart(self, chart):
        """Raises OffChart with the first place that is no place of a chart."""
        for region in self._regions:
            for place in region:
                if place not in chart:
                    raise OffChart(place)

    def kept_by(self, sky):
        """Whether a sky keeps the saying."""
        self.check_chart(sky.chart)
        return all([part._is_kept(sky) for part in self.parts()])

    def _is_kept(self, sky):
        """Whether a sky that has all places keeps this simple saying."""
        number = self._numbers[0]
        if self.kind == "squallmost":
            return sky.squall(self._regions[0][0]) <= number
        if self.kind == "squallleast":
            return sky.squall(self._regions[0][0]) >= number
        heights = [sky.region_height(region) for region in self._regions]
        if self.kind == "atmost":
            return heights[0] <= number
        if self.kind == "atleast":
            return heights[0] >= number
        if self.kind == "under":
            return heights[0] <= heights[1] + number
        return heights[0] < number or heights[1] >= self._numbers[1]

    def with_gauge(self, gauge):
        """The saying with another gauge, or with None."""
        check_gauge(gauge)
        return Saying(self.kind, self._regions, self._numbers, gauge)

    def moved(self, chart, how):
        """The saying with its places moved by a mirror of a chart."""
        check_mirror(how)
        self.check_chart(chart)
        regions = [[mirrored_place(chart, place, how) for place in region] for region in self._regions]
        return Saying(self.kind, regions, self._numbers, self.gauge)

    def text(self):
        """The text of the saying."""
        gauge = [] if self.gauge is None else ["by", self.gauge]
        words = [self.kind, str(self._numbers[0]), region_text(self._regions[0])]
        # Only ifthen has a second number; it stands ahead of the second region.
        numbers = [str(number) for number in self._numbers[1:]]
        regions = [region_text(region) for region in self._regions[1:]]
        return " ".join([*gauge, *words, *numbers, *regions])

    def __str__(self):
        return str(self.text())

    def __eq__(self, other):
        return (isinstance(other, Saying) and self.kind == other.kind and self._regions == other._regions
                and self._numbers == other._numbers and self.gauge == other.gauge)

    def __repr__(self):
        return f"Saying({self.kind})"


def check_gauge(gauge):
    """Raises InvalidGauge for any value that is neither None nor a name."""
    if gauge is not None and not is_name(gauge):
        raise InvalidGauge(gauge)


def saying_of(kind, regions, numbers, gauge):
    """The saying of this kind, behind all checks but that of a single place."""
    for region in regions:
        check_places(region)
    least, most = BOUNDS[kind]
    for number in numbers:
        if not is_number(number, least, most):
            raise InvalidNumber(number)
    check_gauge(gauge)
    return Saying(kind, regions, numbers, gauge)


def _said_of_place(kind, place, number, gauge):
    if not is_place(place):
        raise InvalidPlace(place)
    return saying_of(kind, [[place]], [number], gauge)


def at_most(region, limit, *, gauge=None):
    """The saying that a region has at most this height."""
    return saying_of("atmost", [region], [limit], gauge)


def at_least(region, amount, *, gauge=None):
    """The saying that a region has at least this height."""
    return saying_of("atleast", [region], [amount], gauge)


def exactly(region, limit, *, gauge=None):
    """The saying that a region has this height."""
    return saying_of("exactly", [region], [limit], gauge)


def under(region, other, more, *, gauge=None):
    """The saying that a region is at most by so much higher than another one."""
    return saying_of("under", [region, other], [more], gauge)


def level(region, other, more, *, gauge=None):
    """The saying that a region is by so much higher than another one."""
    return saying_of("level", [region, other], [more], gauge)


def if_then(region, amount, other, least, *, gauge=None):
    """The saying that if a region has at least this amount, then another one has at least so much."""
    return saying_of("ifthen", [region, other], [amount, least], gauge)


def squall_most(place, limit, *, gauge=None):
    """The saying that the squall of a place is at most so much."""
    return _said_of_place("squallmost", place, limit, gauge)


def squall_least(place, amount, *, gauge=None):
    """The saying that the squall of a place is at least so much."""
    return _said_of_place("squallleast", place, amount, gauge)
