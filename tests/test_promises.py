"""Roughness, promises and calm ways against all ways and all skies of small charts."""

import random

from highestsky.charts import Chart
from highestsky.errors import InvalidGauge, InvalidMeasure, InvalidNumber, InvalidWay, OtherChart
from highestsky.lots import Lot
from highestsky.mirrors import delayed, delayed_sky, mirrored, mirrored_place, times
from highestsky.promises import calmest, earliest, possibly_calm, roughness, ship_log, surely_calm
from highestsky.sayings import at_most, exactly, if_then, squall_most, under
from highestsky.skies import Sky
from highestsky.trips import GuardedTrip, Trip, is_way
from tests.helpers import CALM_WIND, Case, any_values, largest_chart, random_sky, wrong_places
from tests.journeys import journeys, open_chart, random_journey
from tests.test_verdicts import CHART, A, B, C, D, LotCase, example, impossible_lots
from tests.worlds import cases

OTHER = Chart(CHART.rows(), CHART.winds(), top=8)
NO_BARS = [-1, 100, 101, 10 ** 9, *[value for value in any_values() if type(value) is not int], "5", [5], (5,)]
NO_MEASURES = [*any_values(), "least", "greatest ", "Sum", "", ["sum"], ("greatest",), max, CHART]


def rough(heights, way, by):
    numbers = [heights[place] for place in way]
    return {"greatest": max, "sum": sum}[by](numbers)


def random_lot(maker, chart):
    """A lot of ceilings, which can always be, on any chart."""
    def region():
        return maker.choices(chart.places(), k=maker.randint(1, 3))
    makers = [lambda: at_most(region(), maker.randint(0, chart.top)),
              lambda: squall_most(maker.choice(chart.places()), maker.randint(0, chart.top)),
              lambda: under(region(), region(), maker.randint(0, 3)),
              lambda: if_then(region(), maker.randint(1, chart.top + 1), region(), maker.randint(1, chart.top + 1))]
    return Lot(chart, [maker.choice(makers)() for _ in range(maker.randint(0, 8))])


def trips_and_lots(seed, many):
    for maker, journey in journeys(seed, many):
        yield maker, journey, random_lot(maker, journey.chart)


class WayCase(LotCase):
    def refuses_ways(self, call, chart=CHART):
        """Checks how a call that takes a way on a chart refuses wrong ones."""
        good = chart.places()[0]
        for value in [value for value in any_values() if not isinstance(value, (list, tuple)) or not value]:
            self.refused(InvalidWay(-1), call, value)
        for value in wrong_places(chart):
            self.refused(InvalidWay(0), call, [value])
            self.refused(InvalidWay(1), call, (good, value, value))
        self.refused(InvalidWay(1), call, [good, good])
        self.refused(InvalidWay(0), call, good)


class Roughness(WayCase):
    def test_against_all_ways(self):
        maker = random.Random(170)
        for _, journey in journeys(171, 60):
            sky = random_sky(maker, journey.chart)
            for way in journey.ways[:10]:
                for by in ["greatest", "sum"]:
                    self.same(roughness(sky, way, by=by), rough(sky.heights(), way, by))
                    self.same(roughness(sky, tuple(way[1:] or way), by=by), rough(sky.heights(), way[1:] or way, by))
                self.same(roughness(sky, way), rough(sky.heights(), way, "greatest"))

    def test_an_example(self):
        sky = Sky(CHART, [(A[0], 4), (B[0], 7)])
        self.same([roughness(sky, [A[0], D[0]]), roughness(sky=sky, way=(A[0], D[0]), by="sum"), roughness(sky, C),
                   roughness(sky, A + C, by="sum"), roughness(sky, B + C, by="greatest")], [6, 10, 4, 8, 7])

    def test_errors(self):
        for by in ["sum", None, "x"]:
            self.refuses_ways(lambda way: roughness(Sky.full(CHART), way, by=by))
        for by in NO_MEASURES:
            self.refused(InvalidMeasure(by), roughness, Sky(CHART), A, by=by)


class Calmest(WayCase):
    def check(self, journey, lot, by):
        found = self.told(calmest, lot, journey.trip, by=by)
        if not journey.ways:
            self.same(found, None)
            return None
        wanted = min(rough(lot.sky.heights(), way, by) for way in journey.ways)
        self.same([type(found), len(found), found[0], type(found[1])], [tuple, 2, wanted, list])
        self.same([found[1] in journey.ways, rough(lot.sky.heights(), found[1], by)], [True, wanted])
        return wanted

    def test_against_all_ways(self):
        met = []
        for _, journey, lot in trips_and_lots(172, 150):
            for by in ["greatest", "sum"]:
                met.append(self.check(journey, lot, by))
            if journey.ways:
                self.same(calmest(lot, journey.trip), calmest(lot, journey.trip, by="greatest"))
        self.assertGreater(met.count(None), 20)
        self.assertGreater(len([number for number in met if number]), 60)

    def test_the_facts(self):
        for maker, world, sayings in cases(173, 12, most=4):
            lot, found = Lot(world.chart, sayings), world.skies_of(sayings)
            journey = random_journey(maker, world.chart)
            if found and journey.ways:
                for by in ["greatest", "sum"]:
                    promise, way = calmest(lot, journey.trip, by=by)
                    self.same(max(rough(world.heights[at], way, by) for at in found), promise)
                    # In the highest sky no way is less rough.
                    self.same(min(max(rough(world.heights[at], other, by) for at in found)
                                  for other in journey.ways), promise)

    def test_an_example(self):
        chart = Chart([[9, 9]], [CALM_WIND] * 2)
        lot = Lot(chart, [at_most([(1, 0, 0)], 2), at_most([(1, 0, 1)], 1), at_most([(0, 0, 0), (2, 0, 0)], 4)])
        trip = Trip(chart, (0, 0), (0, 0))
        self.same(calmest(lot, trip), (4, calmest(lot, trip)[1]))
        self.same(calmest(lot=lot, trip=trip, by="sum"), (9, [(0, 0, 0), (1, 0, 1), (2, 0, 0)]))
        guarded = GuardedTrip(chart, (0, 0), (0, 0), [(1, 0, 1)])
        self.same(calmest(lot, guarded, by="sum"), (10, [(0, 0, 0), (1, 0, 0), (2, 0, 0)]))
        self.same(calmest(lot, Trip(chart, (0, 1), (0, 1), first=1, last=1)), (1, [(1, 0, 1)]))

    def test_forbidden_starts_and_goals(self):
        chart = open_chart(2, 2)
        for place in [(0, 0, 0), (2, 1, 1)]:
            for by in ["greatest", "sum"]:
                self.same(calmest(Lot(chart), GuardedTrip(chart, (0, 0), (1, 1), [place]), by=by), None)

    def test_the_largest_chart(self):
        chart = largest_chart()
        maker = random.Random(174)
        lot = Lot(chart, [at_most([place], maker.randint(20, 99)) for place in maker.sample(chart.places(), 60)])
        trip = Trip(chart, (1, 1), (4, 3))
        heights = lot.sky.heights()
        found = all_ways_sampled(maker, chart, trip)
        for by in ["greatest", "sum"]:
            promise, way = calmest(lot, trip, by=by)
            self.same([is_way(trip, way), rough(heights, way, by)], [True, promise])
            self.same([other for other in found if rough(heights, other, by) < promise], [])

    def test_told_ways_are_new(self):
        lot, trip = example(), Trip(CHART, (0, 0), (0, 0))
        calmest(lot, trip)[1].clear()
        earliest(lot, trip, 9)[1].clear()
        self.same([calmest(lot, trip), earliest(lot, trip, 9)], [(4, A + C), (0, A)])

    def test_errors(self):
        trips = [Trip(CHART, (0, 0), (0, 0)), Trip(CHART, (0, 0), (0, 1), last=0)]
        for trip in [*trips, Trip(OTHER, (0, 0), (0, 0))]:
            for lot in [example(), *impossible_lots()[:2]]:
                for by in NO_MEASURES:
                    self.refused_by(InvalidMeasure(by), calmest, lot, trip, by=by)
        for chart in [OTHER, Chart([[0]]), Chart([[0, None]], CHART.winds())]:
            for lot in [example(), *impossible_lots()]:
                self.refused_by(OtherChart(), calmest, lot, Trip(chart, (0, 0), (0, 0)))
                self.refused_by(OtherChart(), calmest, lot, Trip(chart, (0, 0), (0, 0), last=0), by="sum")
        for trip in trips:
            self.raises_without_a_sky(calmest, trip)
            self.raises_without_a_sky(calmest, trip, by="sum")
        equal = Chart(CHART.rows(), CHART.winds())
        self.same(calmest(example(), Trip(equal, (0, 0), (0, 0)))[0], 4)


def all_ways_sampled(maker, chart, trip):
    """Some ways of a trip, walked at random."""
    found = []
    while len(found) < 300:
        way = [(trip.first, *trip.start)]
        while way[-1][0] < trip.last:
            way.append(maker.choice(trip.next_places(way[-1])))
        if way[-1][1:] == trip.goal:
            found.append(way)
    return found


class Earliest(WayCase):
    def check(self, journey, lot, bar):
        heights = lot.sky.heights()
        wanted = None
        for hour in range(journey.last, journey.first - 1, -1):
            calm = [way for way in journey.ways_until(hour) if all(heights[place] <= bar for place in way)]
            wanted = (hour, calm) if calm else wanted
        found = self.told(earliest, lot, journey.trip, bar)
        if wanted is None:
            self.same(found, None)
            return None
        self.same([type(found), found[0], type(found[1]), found[1] in wanted[1]], [tuple, wanted[0], list, True])
        return found[0] - journey.first

    def test_against_all_ways(self):
        met = []
        for maker, journey, lot in trips_and_lots(175, 150):
            heights = sorted(set(lot.sky.heights().values()))
            for bar in [maker.choice(heights), max(0, maker.choice(heights) - 1), lot.chart.top, 99, 0]:
                met.append(self.check(journey, lot, bar))
        for hours in [0, 1, 2, None]:
            self.assertGreater(met.count(hours), 5, hours)

    def test_about_the_promise(self):
        for _, journey, lot in trips_and_lots(176, 60):
            if journey.ways:
                promise = calmest(lot, journey.trip)[0]
                self.same(earliest(lot, journey.trip, promise) is None, False)
                self.same(earliest(lot, journey.trip, min(99, promise + 1)) is None, False)
                for bar in [promise, promise - 1]:
                    if bar >= 0:
                        self.check(journey, lot, bar)

    def test_ahead_of_the_last_hour(self):
        # At hour 2 all is rough, and the goal is forbidden at hour 1.
        chart = Chart([[9, 9]], [CALM_WIND] * 2)
        lot = Lot(chart, [at_most([(0, 0, 0), (1, 0, 0), (1, 0, 1)], 3)])
        trip = Trip(chart, (0, 0), (0, 1))
        self.same([earliest(lot, trip, 3), earliest(lot, trip, 2), earliest(lot=lot, trip=trip, bar=9)],
                  [(1, [(0, 0, 0), (1, 0, 1)]), None, (1, [(0, 0, 0), (1, 0, 1)])])
        guarded = GuardedTrip(chart, (0, 0), (0, 1), [(1, 0, 1)])
        self.same([earliest(lot, guarded, 3), earliest(lot, guarded, 9)],
                  [None, (2, [(0, 0, 0), (1, 0, 0), (2, 0, 1)])])

    def test_start_at_the_goal(self):
        chart = Chart([[9, 9]], [CALM_WIND] * 2)
        lot = Lot(chart, [at_most([(0, 0, 0)], 3)])
        self.same([earliest(lot, Trip(chart, (0, 0), (0, 0)), bar) for bar in [2, 3, 9]],
                  [None, (0, [(0, 0, 0)]), (0, [(0, 0, 0)])])
        self.same(earliest(lot, GuardedTrip(chart, (0, 0), (0, 0), [(0, 0, 0)]), 99), None)
        self.same(earliest(lot, GuardedTrip(chart, (0, 0), (0, 0), [(2, 0, 0)]), 3), (0, [(0, 0, 0)]))
        self.same(earliest(lot, Trip(chart, (0, 1), (0, 1), first=1, last=2), 9), (1, [(1, 0, 1)]))

    def test_goals_out_of_reach_at_the_last_hour(self):
        chart = open_chart(3, 3)
        self.same(earliest(Lot(chart), GuardedTrip(chart, (0, 0), (0, 1), [(3, 0, 1), (2, 0, 1)]), 9),
                  (1, [(0, 0, 0), (1, 0, 1)]))
        self.same(earliest(Lot(chart), Trip(chart, (0, 0), (2, 2)), 99), None)

    def test_errors(self):
        for trip in [Trip(CHART, (0, 0), (0, 0)), Trip(CHART, (0, 0), (0, 1), last=0)]:
            for lot in [example(), *impossible_lots()]:
                for bar in NO_BARS:
                    self.refused_by(InvalidNumber(bar), earliest, lot, trip, bar)
                    self.refused_by(OtherChart(), earliest, lot, Trip(OTHER, (0, 0), (0, 0)), bar)
            for bar in [0, 99]:
                self.raises_without_a_sky(earliest, trip, bar)


class Calm(WayCase):
    def test_against_all_skies(self):
        met = []
        for maker, world, sayings in cases(177, 15, most=4):
            lot, found = Lot(world.chart, sayings), world.skies_of(sayings)
            journey = random_journey(maker, world.chart)
            if found and journey.ways:
                way = maker.choice(journey.ways)
                for bar in range(world.chart.top + 2):
                    calm = [max(world.heights[at][place] for place in way) <= bar for at in found]
                    for value in [way, tuple(way)]:
                        self.same(self.told(surely_calm, lot, value, bar), all(calm))
                        self.same(self.told(possibly_calm, lot, value, bar), any(calm))
                    met.append((all(calm), any(calm)))
        for pair in [(True, True), (False, True), (False, False)]:
            self.assertGreater(met.count(pair), 20)

    def test_any_way(self):
        # A way need not belong to a trip.
        lot = example()
        self.same([surely_calm(lot, [A[0], D[0]], 6), surely_calm(lot, [A[0], D[0]], 5),
                   possibly_calm(lot=lot, way=[A[0], D[0]], bar=5), possibly_calm(lot, [A[0], D[0]], 4),
                   surely_calm(lot=lot, way=D, bar=99), possibly_calm(lot, A, 0)],
                  [True, False, True, False, True, True])

    def test_sixty_sayings(self):
        lot = Lot(CHART, example().sayings() * 20)
        self.same([possibly_calm(lot, D, 5), possibly_calm(lot, D, 4), surely_calm(lot, D, 6)], [True, False, True])

    def test_errors(self):
        for call in [surely_calm, possibly_calm]:
            for lot in [example(), *impossible_lots()[:1]]:
                for bar in [0, None]:
                    self.refuses_ways(lambda way: call(lot, way, bar))
                for bar in NO_BARS:
                    self.refused_by(InvalidNumber(bar), call, lot, A, bar)
            self.raises_without_a_sky(call, A, 0)
            self.raises_without_a_sky(call, B + D, 99)


class ShipLogs(WayCase):
    def test_against_all_ways(self):
        maker = random.Random(178)
        for _, journey in journeys(179, 60):
            sky = random_sky(maker, journey.chart)
            for way in journey.ways[:5]:
                for gauge in [None, "a", "buoy"]:
                    told = ship_log(sky, way, gauge=gauge)
                    self.same([saying.text() for saying in told],
                              [exactly([place], sky.heights()[place], gauge=gauge).text() for place in way])
                    self.same([type(told), [saying.kept_by(sky) for saying in told]], [list, [True] * len(way)])
                self.same(ship_log(sky, tuple(way)) == ship_log(sky, way, gauge=None), True)

    def test_put_to_a_lot(self):
        for maker, world, sayings in cases(180, 10, most=3):
            lot, found = Lot(world.chart, sayings), world.skies_of(sayings)
            journey = random_journey(maker, world.chart)
            if found and journey.ways:
                way, at = maker.choice(journey.ways), maker.choice(found)
                lot.put(*ship_log(world.sky(at), way, gauge="ship"))
                same = [other for other in found if all(
                    world.heights[other][place] == world.heights[at][place] for place in way)]
                self.same([lot.can_be, lot.keeps(world.sky(at)), roughness(lot.sky, way)],
                          [True, True, roughness(world.sky(at), way)])
                self.same(world.skies_of(lot.sayings()), same)

    def test_an_example(self):
        sky = Sky(CHART, [(B[0], 7)])
        self.same([saying.text() for saying in ship_log(sky=sky, way=[A[0], D[0]], gauge="a")],
                  ["by a exactly 0 0.0.0", "by a exactly 6 1.0.1"])
        top = Chart([[0]], top=99)
        self.same(ship_log(Sky.full(top), [(0, 0, 0)])[0].text(), "exactly 99 0.0.0")

    def test_errors(self):
        for gauge in [None, "a", "A", 7]:
            self.refuses_ways(lambda way: ship_log(Sky.full(CHART), way, gauge=gauge))
        values = [value for value in any_values() if value is not None and value != "end"]
        for gauge in [*values, "toolong", "a b", ["a"]]:
            self.refused(InvalidGauge(gauge), ship_log, Sky(CHART), A, gauge=gauge)


class ChangedCharts(Case):
    """[11] and [36] together."""

    def test_delayed_and_multiplied(self):
        for _, journey, lot in trips_and_lots(181, 60):
            # The lot of the changed chart: its squalls are those of the highest sky, and 0 at the new hour.
            for by in ["greatest", "sum"]:
                plain = calmest(lot, journey.trip, by=by)
                later = delayed_lot(lot)
                trip = Trip(later.chart, journey.start, journey.goal, first=journey.first + 1, last=journey.last + 1)
                if journey.forbidden is not None:
                    places = [(hour + 1, row, column) for hour, row, column in journey.forbidden]
                    trip = GuardedTrip(later.chart, journey.start, journey.goal, places, first=trip.first,
                                       last=trip.last)
                found = calmest(later, trip, by=by)
                self.same(found if plain is None else found[0], plain if plain is None else plain[0])
                for factor in [2, 9]:
                    great = multiplied_lot(lot, factor)
                    trip = Trip(great.chart, journey.start, journey.goal, first=journey.first, last=journey.last)
                    if journey.forbidden is not None:
                        trip = GuardedTrip(great.chart, journey.start, journey.goal, journey.forbidden,
                                           first=journey.first, last=journey.last)
                    found = calmest(great, trip, by=by)
                    self.same(found if plain is None else found[0], plain if plain is None else plain[0] * factor)

    def test_mirrored(self):
        for _, journey, lot in trips_and_lots(182, 40):
            for how in ["rows", "columns", "cross"]:
                chart = mirrored(lot.chart, how)
                moved = Lot(chart, [saying.moved(lot.chart, how) for saying in lot.sayings()])
                start, goal = [mirrored_place(lot.chart, (0, *cell), how)[1:] for cell in [journey.start, journey.goal]]
                forbidden = [mirrored_place(lot.chart, place, how) for place in journey.forbidden or []]
                trip = GuardedTrip(chart, start, goal, forbidden, first=journey.first, last=journey.last)
                for by in ["greatest", "sum"]:
                    plain, found = calmest(lot, journey.trip, by=by), calmest(moved, trip, by=by)
                    self.same(found if plain is None else found[0], plain if plain is None else plain[0])


def delayed_lot(lot):
    """The lot of limits of squalls whose highest sky is that of a lot, moved to the next hour."""
    sky = delayed_sky(lot.sky, CALM_WIND)
    return Lot(delayed(lot.chart, CALM_WIND)).with_sayings(
        [squall_most(place, sky.squall(place)) for place in sky.chart.places()])


def multiplied_lot(lot, factor):
    """The lot of the multiplied chart whose numbers are those of a lot times the factor."""
    chart = times(Chart(lot.chart.rows(), lot.chart.winds(), top=lot.chart.top), factor)
    return Lot(chart).with_sayings([squall_most(place, factor * lot.sky.squall(place)) for place in chart.places()])
