"""Lowering: how ceilings limit the squalls of bounds, and how bounds go down until no ceiling is broken."""

from highestsky.errors import InvalidNumber
from highestsky.losses import losses_to
from highestsky.skies import Sky
from highestsky.words import is_number

# A limit that is told to lower bounds, or in a text, is not greater.
MOST_LIMIT = 9999

# The kinds of ceilings whose limits fall with the bounds.
MOVING = ("under", "ifthen")


class Reaches:
    """With which losses the places of a chart, by their indexes, reach regions; each region is worked out once."""

    def __init__(self, chart):
        self.chart = chart
        self._indexes = {place: index for index, place in enumerate(chart.places())}
        self._known = {}

    def index_of(self, place):
        """The index of a place among the places of the chart."""
        return self._indexes[place]

    def pairs_to(self, region):
        """The list of the pairs (index, loss) of the places whose swell can be felt at a kept region."""
        if region not in self._known:
            losses = losses_to(self.chart, region)
            # With a loss as great as the top nothing is left of any squall.
            self._known[region] = [(self._indexes[place], losses[place]) for place in losses
                                   if losses[place] < self.chart.top]
        return self._known[region]


class Bounds:
    """Bounds that are lowered in place.

    They tell squalls and heights by the same words as a sky, but work out just the heights that are asked for.
    """

    def __init__(self, reaches, squalls):
        self.chart = reaches.chart
        self._reaches = reaches
        self._squalls = list(squalls)
        self._peaks = {}

    def squall(self, place):
        """The squall of a place."""
        return self._squalls[self._reaches.index_of(place)]

    def region_height(self, region):
        """The height of a kept region."""
        if region in self._peaks:
            peak, loss, known = self._peaks[region]
            # As bounds only go down, the height stays while the squall that made it does.
            if self._squalls[peak] - loss == known:
                return known
        pairs = self._reaches.pairs_to(region)
        # The places of the region have no loss, so that the greatest number is never below 0.
        heights = [self._squalls[index] - less for index, less in pairs]
        height = max(heights)
        self._peaks[region] = (*pairs[heights.index(height)], height)
        return height

    def lower_place(self, place, limit):
        """Lowers the squall of a place to a limit."""
        index = self._reaches.index_of(place)
        self._squalls[index] = min(self._squalls[index], limit)

    def lower_region(self, region, limit):
        """Lowers the squalls just so far that a kept region has at most a height."""
        for index, loss in self._reaches.pairs_to(region):
            if self._squalls[index] > limit + loss:
                self._squalls[index] = limit + loss

    def lower_to(self, ceiling, limit):
        """Lowers by a ceiling to a limit."""
        region = ceiling.regions()[0]
        if ceiling.kind == "squallmost":
            self.lower_place(region[0], limit)
        else:
            self.lower_region(region, limit)

    def forget(self, ceiling, limit):
        """Lifts to the top the squalls that lowering by a ceiling to a limit leaves within these bounds."""
        self._peaks = {}
        region = ceiling.regions()[0]
        pairs = self._reaches.pairs_to(region)
        if ceiling.kind == "squallmost":
            pairs = [(self._reaches.index_of(region[0]), 0)]
        for index, loss in pairs:
            if limit + loss <= self._squalls[index]:
                self._squalls[index] = self.chart.top

    def is_within(self, other):
        """Whether no squall is greater than that of other bounds of the chart."""
        return all([own <= most for own, most in zip(self._squalls, other._squalls)])

    def as_sky(self):
        """The sky with these squalls."""
        return Sky(self.chart, list(zip(self.chart.places(), self._squalls)))

    def twin(self):
        """Independent bounds with the same squalls."""
        other = Bounds(self._reaches, self._squalls)
        other._peaks = {region: self._peaks[region] for region in self._peaks}
        return other


def full_bounds(reaches):
    """Bounds that have the top everywhere."""
    return Bounds(reaches, [reaches.chart.top for _ in reaches.chart.places()])


def limit_at(sky, ceiling):
    """The limit of a ceiling at bounds, which may be a sky, or None."""
    number = ceiling.numbers()[0]
    if ceiling.kind == "under":
        return sky.region_height(ceiling.regions()[1]) + number
    if ceiling.kind == "ifthen":
        return number - 1 if sky.region_height(ceiling.regions()[1]) < ceiling.numbers()[1] else None
    return number


def is_broken(sky, ceiling):
    """Whether bounds break a ceiling."""
    limit = limit_at(sky, ceiling)
    return limit is not None and amount_at(sky, ceiling) > limit


def amount_at(sky, ceiling):
    """The height, or the squall, at bounds that a ceiling limits."""
    region = ceiling.regions()[0]
    return sky.squall(region[0]) if ceiling.kind == "squallmost" else sky.region_height(region)


def lowered(sky, ceiling, limit):
    """The bounds lowered by a ceiling to a limit."""
    if not is_number(limit, 0, MOST_LIMIT):
        raise InvalidNumber(limit)
    bounds = Bounds(Reaches(sky.chart), [sky.squall(place) for place in sky.chart.places()])
    bounds.lower_to(ceiling, limit)
    return bounds.as_sky()


def is_forced(sky, ceiling, limit):
    """Whether any limit is a number from 0 on to which bounds are to be lowered by a ceiling."""
    # A number is never above itself: a limit has no greatest number here.
    if not is_number(limit, 0, limit):
        return False
    least = limit_at(sky, ceiling)
    return least is not None and least <= limit


class Descent:
    """How bounds go down from the full sky by the ceilings of sayings, and whether all can be kept at the end.

    `trail` is the log so far. `end` is a part that cannot be kept: an under whose limit is below 0, with which the
    descent ends, or the first floor that the bounds do not keep; None if there is no such part.
    """

    def __init__(self, reaches):
        self._reaches = reaches
        self._bounds = full_bounds(reaches)
        self._parts = []
        self.trail = []
        self.end = None

    def take(self, sayings):
        """Goes further down by the parts of sayings, all of them together."""
        parts = [part for saying in sayings for part in saying.parts()]
        self._parts.extend(parts)
        if not self.has_ended():
            self._go_down([part for part in parts if part.is_ceiling()])
        if not self.has_ended():
            self.end = self._unkept_floor()

    def has_ended(self):
        """Whether the ceilings have no sky."""
        return self.end is not None and self.end.is_ceiling()

    def _go_down(self, ceilings):
        """Lowers until none of the ceilings is broken."""
        waiting = ceilings
        # A ceiling with a fixed limit is never broken again.
        moving = [part for part in self._parts if part.kind in MOVING]
        while waiting:
            many = len(self.trail)
            self._pass_over(waiting)
            # There and back by turns, as a chain of ceilings may run in either direction.
            moving = moving[::-1]
            waiting = moving if len(self.trail) > many and not self.has_ended() else []

    def _pass_over(self, ceilings):
        """Lowers once by each of the ceilings that is broken when its turn comes."""
        for ceiling in ceilings:
            limit = limit_at(self._bounds, ceiling)
            if limit is not None and limit < 0:
                self.end = ceiling
                return
            if limit is not None and amount_at(self._bounds, ceiling) > limit:
                self._bounds.lower_to(ceiling, limit)
                self.trail.append((ceiling, limit))

    def _unkept_floor(self):
        for part in self._parts:
            if part.is_floor() and not part.kept_by(self._bounds):
                return part
        return None

    def highest(self):
        """The highest sky; None if the ceilings have no sky."""
        return None if self.has_ended() else self._bounds.as_sky()

    def parts(self):
        """The list of the parts of the sayings."""
        return list(self._parts)

    def beginning(self):
        """The bounds at which each descent on this chart begins."""
        return full_bounds(self._reaches)

    def fresh(self):
        """A descent that has taken nothing yet."""
        return Descent(self._reaches)

    def twin(self):
        """An independent descent in the same state."""
        other = Descent(self._reaches)
        other._bounds = self._bounds.twin()
        other._parts = list(self._parts)
        other.trail = list(self.trail)
        other.end = self.end
        return other
