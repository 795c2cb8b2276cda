"""The limits of ceilings, when bounds break them, and how they lower bounds."""

import random

from highestsky.charts import Chart
from highestsky.errors import InvalidNumber
from highestsky.lowering import is_broken, is_forced, limit_at, lowered
from highestsky.sayings import at_most, if_then, squall_most, under
from highestsky.skies import Sky
from tests.helpers import Case, any_values, heights_of, largest_chart, least_losses, random_sky, sample_charts
from tests.worlds import CEILINGS, WORLDS, make_saying

CHART = Chart([[0, 1]], [(0, 5, 2, 5, 3)])
# Heights: 4 at (0, 0, 0), 7 at (0, 0, 1), 4 at (1, 0, 0) and 6 at (1, 0, 1), where no squall is.
SKY = Sky(CHART, [((0, 0, 0), 4), ((0, 0, 1), 7), ((1, 0, 0), 4)])
A, B, C, D = [(0, 0, 0)], [(0, 0, 1)], [(1, 0, 0)], [(1, 0, 1)]
NO_NUMBERS = [value for value in any_values() if type(value) is not int]


def limit_of(chart, sky, ceiling):
    """The limit by the words of [18]."""
    heights = heights_of(chart, dict(sky.squalls()))
    number = ceiling.numbers()[0]
    if ceiling.kind == "under":
        return max(heights[place] for place in ceiling.regions()[1]) + number
    if ceiling.kind == "ifthen":
        return number - 1 if max(heights[place] for place in ceiling.regions()[1]) < ceiling.numbers()[1] else None
    return number


def lowered_squalls(sky, losses, ceiling, limit):
    """The squalls of lowered bounds by the words of [18], from the least losses of all pairs of places."""
    found = {}
    for place in sky.chart.places():
        squall = sky.squall(place)
        region = ceiling.regions()[0]
        if ceiling.kind == "squallmost":
            found[place] = min(squall, limit) if place == region[0] else squall
        else:
            reached = [losses[place, end] for end in region if (place, end) in losses]
            found[place] = min([squall, *[limit + loss for loss in reached]])
    return [(place, number) for place, number in found.items() if number > 0]


def sample_bounds():
    """Tuples of a chart, its losses, bounds and a ceiling; the bounds are full, calm or any."""
    maker = random.Random(18)
    for chart in sample_charts():
        losses = least_losses(chart.rows(), chart.winds())
        for at in range(40):
            sky = [Sky.full(chart), Sky(chart), random_sky(maker, chart), random_sky(maker, chart)][at % 4]
            region, other = [maker.choices(chart.places(), k=maker.randint(1, 3)) for _ in range(2)]
            numbers = [maker.randint(-3, chart.top + 2) for _ in range(2)]
            yield maker, chart, losses, sky, make_saying(maker.choice(CEILINGS), region, other, *numbers)


class Limits(Case):
    def test_each_kind(self):
        self.same([limit_at(SKY, at_most(A, 3)), limit_at(SKY, at_most(A, 0)), limit_at(SKY, at_most(A, 99))],
                  [3, 0, 99])
        self.same([limit_at(SKY, squall_most(D[0], 0)), limit_at(SKY, squall_most(D[0], 99))], [0, 99])
        self.same([limit_at(SKY, under(A, B, 2)), limit_at(SKY, under(A, D, -6)), limit_at(SKY, under(B, A, -5)),
                   limit_at(SKY, under(A, A + B, 99)), limit_at(SKY, under(A, A, -100))], [9, 0, -1, 106, -96])
        self.same([limit_at(SKY, if_then(A, 3, B, 8)), limit_at(SKY, if_then(A, 1, D, 7)),
                   limit_at(SKY, if_then(A, 100, B, 100))],
                  [2, 0, 99])
        self.same([limit_at(SKY, if_then(A, 3, B, 7)), limit_at(SKY, if_then(A, 3, D, 6)),
                   limit_at(SKY, if_then(A, 100, A, 1))],
                  [None, None, None])

    def test_by_name(self):
        self.same(limit_at(sky=SKY, ceiling=under(A, B, 2, gauge="a")), 9)

    def test_squalls_are_no_heights(self):
        # The squall of (1, 0, 1) is 0, and its height is 6.
        self.same([is_broken(SKY, squall_most(D[0], 0)), is_broken(SKY, at_most(D, 5)), is_broken(SKY, at_most(D, 6))],
                  [False, True, False])
        self.same([limit_at(SKY, under(A, D, 0)), limit_at(SKY, if_then(A, 1, D, 6))], [6, None])

    def test_calm_and_full(self):
        calm, full = Sky(CHART), Sky.full(CHART)
        self.same([limit_at(calm, under(A, B, 0)), limit_at(calm, under(A, B, -1)),
                   limit_at(calm, if_then(A, 1, B, 1))],
                  [0, -1, 0])
        self.same([limit_at(full, under(A, B, 0)), limit_at(full, under(A, B, -100)),
                   limit_at(full, if_then(A, 1, B, 9)),
                   limit_at(full, if_then(A, 1, B, 10))], [9, -91, None, 0])

    def test_against_the_words(self):
        for _, chart, _, sky, ceiling in sample_bounds():
            self.same(limit_at(sky, ceiling), limit_of(chart, sky, ceiling))


class Broken(Case):
    def broken(self, wanted, *ceilings):
        self.same([is_broken(SKY, ceiling) for ceiling in ceilings], [wanted] * len(ceilings))

    def test_each_kind(self):
        self.broken(True, at_most(A, 3), at_most(A + B, 6), at_most(A, 0), squall_most(B[0], 6), squall_most(B[0], 0),
                    under(B, A, 2), under(D, C, 1), under(A, A, -1), under(A, B, -100), if_then(A, 4, B, 8),
                    if_then(D, 6, D, 7))
        self.broken(False, at_most(A, 4), at_most(A + B, 7), at_most(A, 99), squall_most(B[0], 7), squall_most(D[0], 0),
                    under(B, A, 3), under(D, C, 2), under(A, A, 0), under(A, B, 99), if_then(A, 4, B, 7),
                    if_then(A, 5, B, 8),
                    if_then(D, 7, D, 100))

    def test_a_limit_below_zero(self):
        calm = Sky(CHART)
        self.same([is_broken(calm, under(A, B, -1)), is_broken(calm, under(A, B, 0)),
                   is_broken(calm, if_then(A, 1, B, 1))],
                  [True, False, False])

    def test_by_name(self):
        self.same(is_broken(sky=SKY, ceiling=at_most(A, 3, gauge="a")), True)

    def test_a_ceiling_is_broken_or_kept(self):
        for _, _, _, sky, ceiling in sample_bounds():
            self.same(is_broken(sky, ceiling), not ceiling.kept_by(sky))


class Lowered(Case):
    def test_each_kind(self):
        full = Sky.full(CHART)
        self.same(lowered(full, at_most(C, 4), 4).squalls(), [((0, 0, 0), 4), ((0, 0, 1), 7), ((1, 0, 0), 4),
                                                              ((1, 0, 1), 9)])
        # Only the limit that is told counts, and of the ceiling only its region.
        for ceiling in [at_most(C, 9), under(C, A, 0), under(C, C, -50), if_then(C, 1, D, 1)]:
            self.same(lowered(full, ceiling, 4).squalls(),
                      [((0, 0, 0), 4), ((0, 0, 1), 7), ((1, 0, 0), 4), ((1, 0, 1), 9)])
        self.same(lowered(full, squall_most((1, 0, 1), 5), 3).squalls(),
                  [((0, 0, 0), 9), ((0, 0, 1), 9), ((1, 0, 0), 9), ((1, 0, 1), 3)])
        self.same(lowered(full, at_most(C + D, 0), 0).squalls(), [((0, 0, 1), 1)])

    def test_places_that_do_not_reach(self):
        self.same(lowered(Sky.full(CHART), at_most(A, 0), 0).squalls(),
                  [((0, 0, 1), 9), ((1, 0, 0), 9), ((1, 0, 1), 9)])
        barred = Chart([[0, 0]], [(None, 0, None, 0, 0)])
        self.same(lowered(Sky.full(barred), at_most([(1, 0, 0), (1, 0, 1)], 2), 2).squalls(),
                  [((0, 0, 0), 9), ((0, 0, 1), 2), ((1, 0, 0), 2), ((1, 0, 1), 2)])

    def test_limits(self):
        self.same(lowered(SKY, at_most(B, 1), 0).squalls(), [((0, 0, 0), 4), ((1, 0, 0), 4)])
        for limit in [9, 10, 99, 100, 9999]:
            self.same(lowered(SKY, at_most(C + D, 3), limit) == SKY, True)
            self.same(lowered(SKY, squall_most(B[0], 3), limit) == SKY, True)
        for ceiling in [at_most(A, 3), squall_most(B[0], 3), under(A, B, 2), if_then(A, 1, B, 9)]:
            for limit in [-1, -100, 10000, 10 ** 6, 999999999, *NO_NUMBERS]:
                self.refused(InvalidNumber(limit), lowered, SKY, ceiling, limit)

    def test_by_name(self):
        self.same(lowered(sky=SKY, ceiling=at_most(B, 1, gauge="a"), limit=0).squalls(),
                  [((0, 0, 0), 4), ((1, 0, 0), 4)])

    def test_the_sky_stays(self):
        before = SKY.squalls()
        lowered(SKY, at_most(C + D, 0), 0)
        self.same([SKY.squalls(), SKY.heights()[1, 0, 1]], [before, 6])

    def test_calm_bounds(self):
        for limit in [0, 5]:
            self.same(lowered(Sky(CHART), at_most(C, 0), limit).squalls(), [])

    def test_against_the_words(self):
        for maker, chart, losses, sky, ceiling in sample_bounds():
            for limit in [0, maker.randint(0, chart.top), chart.top]:
                found = lowered(sky, ceiling, limit)
                self.same([found.chart == chart, found.squalls()], [True, lowered_squalls(sky, losses, ceiling, limit)])

    def test_the_largest_chart(self):
        chart = largest_chart()
        region = [(8, 5, 5), (8, 0, 0)]
        found = lowered(Sky.full(chart), at_most(region, 10), 10)
        self.same([found.region_height(region), found.height((8, 5, 4))], [10, 99])


class Forced(Case):
    def test_limits(self):
        for ceiling, limit in [(at_most(A, 3), 3), (squall_most(D[0], 2), 2), (under(A, B, 2), 9), (under(A, D, -6), 0),
                               (if_then(A, 3, B, 8), 2)]:
            self.same([is_forced(SKY, ceiling, limit + more) for more in range(3)], [True] * 3)
            self.same([is_forced(SKY, ceiling, limit - less) for less in range(1, 4)], [False] * 3)
            self.same([is_forced(SKY, ceiling, 9999), is_forced(SKY, ceiling, 10000),
                       is_forced(SKY, ceiling, 999999999)], [True] * 3)

    def test_a_limit_below_zero(self):
        self.same([is_forced(SKY, under(B, A, -5), limit) for limit in [-5, -1, 0, 1]], [False, False, True, True])

    def test_no_limit(self):
        for limit in [0, 2, 99, 9999]:
            self.same(is_forced(SKY, if_then(A, 3, B, 7), limit), False)

    def test_what_lowers_nothing(self):
        self.same([is_forced(Sky(CHART), at_most(A, 3), 3), is_forced(Sky(CHART), at_most(A, 3), 2)], [True, False])

    def test_what_is_no_number(self):
        for limit in [*NO_NUMBERS, SKY, at_most(A, 3), (0,), [3]]:
            for ceiling in [at_most(A, 0), squall_most(D[0], 0), under(A, A, -100), if_then(A, 3, B, 7)]:
                self.same(is_forced(SKY, ceiling, limit), False)
        self.same([is_forced(SKY, at_most(A, 0), True), is_forced(SKY, at_most(A, 0), False)], [False, False])

    def test_by_name(self):
        self.same(is_forced(sky=SKY, ceiling=at_most(A, 3, gauge="a"), limit=3), True)


class Facts(Case):
    def test_bounds_stay_bounds(self):
        # Each sky that keeps the ceiling stays below bounds that are lowered to its limit, or to a greater number.
        maker = random.Random(19)
        for world in WORLDS:
            for _ in range(8):
                ceiling = world.saying(maker, CEILINGS)
                bounds = maker.choice([Sky.full(world.chart), world.sky(maker.choice(world.all))])
                limit = limit_at(bounds, ceiling)
                below = [at for at in world.skies_of([ceiling]) if world.sky(at).is_below(bounds)]
                if limit is not None and limit < 0:
                    self.same(below, [])
                elif limit is not None:
                    for number in [limit, limit + 1]:
                        found = lowered(bounds, ceiling, number)
                        self.same([at for at in below if not world.sky(at).is_below(found)], [])
                        self.same([found.is_below(bounds), is_forced(bounds, ceiling, number)], [True, True])
