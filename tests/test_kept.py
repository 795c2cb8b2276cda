"""Which skies keep which sayings, and the facts about parts, opposites, ceilings and floors."""

import random

from highestsky.charts import Chart
from highestsky.errors import OffChart
from highestsky.sayings import (
    BOUNDS, KINDS, at_least, at_most, exactly, if_then, level, squall_least, squall_most, under,
)
from highestsky.skies import Sky
from tests.helpers import CALM_WIND, Case, random_region, random_sky, sample_charts

CHART = Chart([[0, 1]], [(0, 5, 2, 5, 3)])
# Heights: 4 at (0, 0, 0), 7 at (0, 0, 1), 4 at (1, 0, 0) and 6 at (1, 0, 1), where no squall is.
SKY = Sky(CHART, [((0, 0, 0), 4), ((0, 0, 1), 7), ((1, 0, 0), 4)])
LOW = [(0, 0, 0), (1, 0, 0)]
HIGH = [(1, 0, 1), (0, 0, 0)]


def random_saying(maker, chart):
    """A saying of any kind, with small numbers more often than great ones."""
    kind = maker.choice(KINDS)
    least, most = BOUNDS[kind]
    number, second = [max(least, min(most, maker.choice([maker.randint(-3, chart.top + 2), maker.randint(least, most)])))
                      for _ in range(2)]
    region, other = random_region(maker, chart), random_region(maker, chart)
    gauge = maker.choice([None, "a"])
    return {
        "atmost": lambda: at_most(region, number, gauge=gauge), "atleast": lambda: at_least(region, number, gauge=gauge),
        "exactly": lambda: exactly(region, number, gauge=gauge), "under": lambda: under(region, other, number, gauge=gauge),
        "level": lambda: level(region, other, number, gauge=gauge),
        "ifthen": lambda: if_then(region, number, other, second, gauge=gauge),
        "squallmost": lambda: squall_most(region[0], number, gauge=gauge),
        "squallleast": lambda: squall_least(region[0], number, gauge=gauge),
    }[kind]()


def is_kept(saying, sky):
    """Whether a sky keeps a saying by the table of [12]."""
    numbers = saying.numbers()
    heights = [max(sky.height(place) for place in region) for region in saying.regions()]
    squall = sky.squall(saying.regions()[0][0])
    return {
        "atmost": lambda: heights[0] <= numbers[0], "atleast": lambda: heights[0] >= numbers[0],
        "exactly": lambda: heights[0] == numbers[0], "under": lambda: heights[0] <= heights[1] + numbers[0],
        "level": lambda: heights[0] == heights[1] + numbers[0],
        "ifthen": lambda: heights[0] < numbers[0] or heights[1] >= numbers[1],
        "squallmost": lambda: squall <= numbers[0], "squallleast": lambda: squall >= numbers[0],
    }[saying.kind]()


def sayings_and_skies():
    """Triples of a saying and two skies of one chart."""
    maker = random.Random(17)
    for chart in sample_charts():
        for _ in range(60):
            yield random_saying(maker, chart), random_sky(maker, chart), random_sky(maker, chart)


class JustKept(Case):
    def kept(self, *sayings):
        for saying in sayings:
            self.same(saying.kept_by(SKY), True)
            self.same(saying.with_gauge("a").kept_by(sky=SKY), True)

    def unkept(self, *sayings):
        for saying in sayings:
            self.same(saying.kept_by(SKY), False)
            self.same(saying.with_gauge("a").kept_by(sky=SKY), False)

    def test_heights(self):
        self.kept(at_most(LOW, 4), at_most(HIGH, 6), at_most(HIGH, 99), at_most([(0, 0, 1)], 7))
        self.unkept(at_most(LOW, 3), at_most(HIGH, 5), at_most(HIGH, 0), at_most([(0, 0, 1)], 6))
        self.kept(at_least(LOW, 4), at_least(HIGH, 6), at_least(HIGH, 1), at_least([(0, 0, 1)], 7))
        self.unkept(at_least(LOW, 5), at_least(HIGH, 7), at_least(HIGH, 100), at_least([(0, 0, 1)], 8))
        self.kept(exactly(LOW, 4), exactly(HIGH, 6))
        self.unkept(exactly(LOW, 3), exactly(LOW, 5), exactly(HIGH, 5), exactly(HIGH, 7), exactly(LOW, 0), exactly(LOW, 99))

    def test_two_regions(self):
        self.kept(under(LOW, HIGH, -2), under(HIGH, LOW, 2), under(LOW, LOW, 0), under(LOW, HIGH, 99))
        self.unkept(under(LOW, HIGH, -3), under(HIGH, LOW, 1), under(LOW, LOW, -1), under(LOW, HIGH, -100))
        self.kept(level(LOW, HIGH, -2), level(HIGH, LOW, 2), level(LOW, LOW, 0))
        self.unkept(level(LOW, HIGH, -3), level(LOW, HIGH, -1), level(HIGH, LOW, 1), level(HIGH, LOW, 3),
                    level(LOW, LOW, 1), level(LOW, LOW, -1), level(LOW, HIGH, 2))

    def test_if_then(self):
        self.kept(if_then(LOW, 4, HIGH, 6), if_then(LOW, 5, HIGH, 7), if_then(LOW, 1, HIGH, 1), if_then(HIGH, 7, LOW, 100),
                  if_then(HIGH, 6, LOW, 4))
        self.unkept(if_then(LOW, 4, HIGH, 7), if_then(HIGH, 6, LOW, 5), if_then(LOW, 1, LOW, 5))

    def test_squalls(self):
        self.kept(squall_most((1, 0, 1), 0), squall_most((0, 0, 1), 7), squall_least((0, 0, 1), 7),
                  squall_least((1, 0, 0), 4))
        self.unkept(squall_least((1, 0, 1), 1), squall_most((0, 0, 1), 6), squall_least((0, 0, 1), 8),
                    squall_most((1, 0, 0), 3), squall_least((1, 0, 0), 100))

    def test_calm_and_full_skies(self):
        calm, full = Sky(CHART), Sky.full(CHART)
        self.same([exactly(HIGH, 0).kept_by(calm), exactly(HIGH, 0).kept_by(SKY)], [True, False])
        self.same([exactly(HIGH, 9).kept_by(full), exactly(HIGH, 8).kept_by(full)], [True, False])
        self.same([under(HIGH, HIGH, -1).kept_by(full), under(HIGH, LOW, 0).kept_by(calm)], [False, True])


class OffTheChart(Case):
    def test_first_place(self):
        sky = Sky(Chart([[0, None, 0]], [CALM_WIND]))
        good, off = [(1, 0, 2), (0, 0, 0)], [(2, 0, 0), (0, 0, 2), (0, 1, 0), (0, 0, 1)]
        later = [(8, 5, 5), (1, 0, 1)]
        for saying in [at_most(off, 1), at_least(off, 1), exactly(off, 1), exactly(off, 0), under(off, good, 1),
                       level(off, good, 1), if_then(off, 1, good, 1), under(good, off, 1), level(good, off, 1),
                       if_then(good, 1, off, 1), under(off, later, 1), squall_most((0, 0, 1), 1),
                       squall_least((0, 0, 1), 1)]:
            self.refused(OffChart((0, 0, 1)), saying.kept_by, sky)
        for saying in [under(later, off, 1), level(later, off, 1), if_then(later, 1, off, 1), at_most(later, 99)]:
            self.refused(OffChart((1, 0, 1)), saying.kept_by, sky)
        # The first region alone would tell that it is kept.
        self.refused(OffChart((0, 0, 1)), if_then(good, 100, off, 1).kept_by, sky)

    def test_places_of_later_hours(self):
        self.refused(OffChart((1, 0, 0)), at_most([(0, 0, 0), (1, 0, 0)], 1).kept_by, Sky(Chart([[0]])))


class Facts(Case):
    def test_the_table(self):
        for saying, sky, _ in sayings_and_skies():
            self.same(saying.kept_by(sky), is_kept(saying, sky))

    def test_both_are_met(self):
        found = {(saying.kind, saying.kept_by(sky)) for saying, sky, _ in sayings_and_skies()}
        self.same(sorted(found), sorted((kind, kept) for kind in KINDS for kept in [False, True]))

    def test_parts(self):
        for saying, sky, _ in sayings_and_skies():
            self.same(saying.kept_by(sky), all(part.kept_by(sky) for part in saying.parts()))
            self.same([part.gauge for part in saying.parts()], [saying.gauge] * len(saying.parts()))

    def test_opposites(self):
        for saying, sky, _ in sayings_and_skies():
            kept = [sayings for sayings in saying.opposites() if all(other.kept_by(sky) for other in sayings)]
            self.same(len(kept), 0 if saying.kept_by(sky) else 1)

    def test_ceilings(self):
        for saying, one, other in sayings_and_skies():
            if saying.is_ceiling() and saying.kept_by(one) and saying.kept_by(other):
                self.same(saying.kept_by(one | other), True)

    def test_floors(self):
        for saying, one, other in sayings_and_skies():
            if saying.is_floor() and saying.kept_by(one):
                self.same(saying.kept_by(one | other), True)

    def test_what_is_no_ceiling(self):
        one, other = Sky(CHART, [((0, 0, 0), 3)]), Sky(CHART, [((0, 0, 0), 5)])
        self.same([exactly([(0, 0, 0)], 3).kept_by(sky) for sky in [one, one | other]], [True, False])
