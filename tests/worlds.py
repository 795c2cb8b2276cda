"""Small charts with all of their skies, and what sayings and lots mean for them, worked out by the words alone."""

import random

from highestsky.charts import Chart
from highestsky.lots import Lot
from highestsky.sayings import (
    BOUNDS, KINDS, at_least, at_most, exactly, if_then, level, squall_least, squall_most, under,
)
from highestsky.skies import Sky
from tests.helpers import CALM_WIND, least_losses, places_of, steps_of

CEILINGS = ["atmost", "under", "ifthen", "squallmost"]
FLOORS = ["atleast", "squallleast"]
PLAIN = ["atmost", "atleast", "exactly", "squallmost", "squallleast"]


class World:
    """A chart with all of its skies."""

    def __init__(self, chart):
        self.chart = chart
        self.places = places_of(chart.rows(), chart.winds())
        self.steps = steps_of(chart.rows(), chart.winds())
        self.losses = least_losses(chart.rows(), chart.winds())
        self.squalls = [{}]
        for place in self.places:
            self.squalls = [{**squalls, place: number} for squalls in self.squalls for number in range(chart.top + 1)]
        self.heights = [self.heights_of(squalls) for squalls in self.squalls]
        self.all = range(len(self.squalls))
        self._indexes = {tuple(squalls.values()): at for at, squalls in enumerate(self.squalls)}
        self._skies, self._kept = {}, {}

    def heights_of(self, squalls):
        found = {}
        for place in self.places:
            swell = [found[start] - loss for (start, end), loss in self.steps.items() if end == place]
            found[place] = max([squalls[place], *swell])
        return found

    def sky(self, at):
        if at not in self._skies:
            self._skies[at] = Sky(self.chart, list(self.squalls[at].items()))
        return self._skies[at]

    def index_of(self, sky):
        """The index of a sky of the chart."""
        return self._indexes[tuple(sky.squall(place) for place in self.places)]

    def height(self, at, region):
        return max(self.heights[at][place] for place in region)

    def keeps(self, at, saying):
        """Whether a sky keeps a saying by the table of [12]."""
        numbers, regions = saying.numbers(), saying.regions()
        heights = [self.height(at, region) for region in regions]
        squall = self.squalls[at][regions[0][0]]
        return {
            "atmost": lambda: heights[0] <= numbers[0], "atleast": lambda: heights[0] >= numbers[0],
            "exactly": lambda: heights[0] == numbers[0], "under": lambda: heights[0] <= heights[1] + numbers[0],
            "level": lambda: heights[0] == heights[1] + numbers[0],
            "ifthen": lambda: heights[0] < numbers[0] or heights[1] >= numbers[1],
            "squallmost": lambda: squall <= numbers[0], "squallleast": lambda: squall >= numbers[0],
        }[saying.kind]()

    def skies_of(self, sayings):
        """The indexes of the skies that keep all sayings of a list."""
        found = list(self.all)
        for saying in sayings:
            text = saying.text()
            if text not in self._kept:
                self._kept[text] = {at for at in self.all if self.keeps(at, saying)}
            found = [at for at in found if at in self._kept[text]]
        return found

    def highest_of(self, sayings):
        """A dict of the squalls of the highest sky of a lot, or None: the higher one of all that keep the ceilings."""
        ceilings = [part for saying in sayings for part in parts_of(saying) if part.kind in CEILINGS]
        found = self.skies_of(ceilings)
        if not found:
            return None
        return {place: max(self.squalls[at][place] for at in found) for place in self.places}

    def highest_sky(self, sayings):
        squalls = self.highest_of(sayings)
        return None if squalls is None else Sky(self.chart, list(squalls.items()))

    def region(self, maker):
        return maker.choices(self.places, k=maker.choice([1, 1, 2, 3]))

    def saying(self, maker, kinds=KINDS, gauges=(None, None, "a", "b")):
        """A saying about places of the chart with numbers about as great as its heights."""
        region, other = self.region(maker), self.region(maker)
        number, second = [maker.randint(-2, self.chart.top + 1) for _ in range(2)]
        return make_saying(maker.choice(kinds), region, other, number, second, maker.choice(gauges))

    def sayings(self, maker, most=5, kinds=KINDS, gauges=(None, None, "a", "b")):
        return [self.saying(maker, kinds, gauges) for _ in range(maker.randint(0, most))]


def make_saying(kind, region, other, number, second, gauge=None):
    """A saying of a kind, with numbers moved into their bounds; what the kind has not is left out."""
    least, most = BOUNDS[kind]
    number, second = [max(least, min(most, value)) for value in [number, second]]
    return {
        "atmost": lambda: at_most(region, number, gauge=gauge),
        "atleast": lambda: at_least(region, number, gauge=gauge),
        "exactly": lambda: exactly(region, number, gauge=gauge),
        "under": lambda: under(region, other, number, gauge=gauge),
        "level": lambda: level(region, other, number, gauge=gauge),
        "ifthen": lambda: if_then(region, number, other, second, gauge=gauge),
        "squallmost": lambda: squall_most(region[0], number, gauge=gauge),
        "squallleast": lambda: squall_least(region[0], number, gauge=gauge),
    }[kind]()


def parts_of(saying):
    """The parts of a saying by the words of [13]."""
    gauge, regions, number = saying.gauge, saying.regions(), saying.numbers()[0]
    if saying.kind == "exactly":
        floors = [at_least(regions[0], number, gauge=gauge)] if number else []
        return [at_most(regions[0], number, gauge=gauge), *floors]
    if saying.kind == "level":
        return [under(regions[0], regions[1], number, gauge=gauge), under(regions[1], regions[0], -number, gauge=gauge)]
    return [saying]


def small_worlds():
    """Charts with at most a few hundred skies."""
    return [
        World(Chart([[0]], top=5)),
        World(Chart([[2, 1]], top=3)),
        World(Chart([[1]], [(0, 0, 0, 0, 0)], top=4)),
        World(Chart([[0, 1]], [(0, 5, 2, 5, 3)], top=3)),
        World(Chart([[0], [1]], [(None, 0, 0, 1, 0)], top=3)),
        World(Chart([[0]], [CALM_WIND, (2, 0, 0, 0, 0)], top=5)),
        World(Chart([[0, None, 0]], [(1, 0, 0, 0, 0)], top=2)),
        World(Chart([[0, 0, 1]], [(None, None, 0, None, 1)], top=1)),
    ]


WORLDS = small_worlds()


def cases(seed, many, most=5, kinds=KINDS, gauges=(None, None, "a", "b")):
    """Tuples of a random maker, a world and the list of the sayings of a lot, many for each world."""
    maker = random.Random(seed)
    for world in WORLDS:
        for _ in range(many):
            yield maker, world, world.sayings(maker, most, kinds, gauges)


def state(lot):
    """All that is to be the same behind a call that changes nothing."""
    sky = lot.sky
    return [lot.chart.text(), lot.text(), lot.begun, lot.can_be, None if sky is None else sky.squalls(),
            [part.text() for part in lot.parts()], [(ceiling.text(), limit) for ceiling, limit in lot.lines()]]


def lots(seed, many, most=5, kinds=KINDS):
    """Tuples of a random maker, a world and a lot, of both sorts: those that can be and those that cannot."""
    for maker, world, sayings in cases(seed, many, most, kinds):
        yield maker, world, Lot(world.chart, sayings)
