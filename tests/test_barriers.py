"""Barriers against all ways of small charts."""

import random

from highestsky.barriers import barrier, is_barrier
from highestsky.charts import Chart
from highestsky.errors import InvalidNumber, OtherChart
from highestsky.lots import Lot
from highestsky.promises import calmest, surely_calm
from highestsky.sayings import at_most
from highestsky.trips import GuardedTrip, Trip
from tests.helpers import CALM_WIND, any_values, largest_chart, wrong_places
from tests.journeys import journeys, open_chart, random_journey
from tests.test_promises import NO_BARS, OTHER, trips_and_lots
from tests.test_verdicts import CHART, A, C, LotCase, example, impossible_lots


def is_right(heights, ways, bar, places):
    """Whether a list of places is a barrier by the words of [37]."""
    if list(places) != sorted(set(places)) or not all(heights[place] > bar for place in places):
        return False
    if not all(set(way) & set(places) for way in ways):
        return False
    return all(any(not set(way) & (set(places) - {place}) for way in ways) for place in places)


class AllWays(LotCase):
    def check(self, maker, journey, lot, bar):
        heights, trip = lot.sky.heights(), journey.trip
        calm = [way for way in journey.ways if all(heights[place] <= bar for place in way)]
        found = self.told(barrier, lot, trip, bar)
        self.same(found is None, bool(calm))
        high = [place for place in journey.chart.places() if heights[place] > bar]
        if found is not None:
            self.same([type(found), is_right(heights, journey.ways, bar, found)], [list, True])
            for value in [found, tuple(found)]:
                self.same(self.told(is_barrier, lot, trip, bar, value), True)
            for value in self.changed(maker, journey, found, high):
                self.same(self.told(is_barrier, lot, trip, bar, value), is_right(heights, journey.ways, bar, value))
        for _ in range(4):
            value = sorted(maker.sample(high, maker.randint(0, min(3, len(high)))))
            self.same(is_barrier(lot, trip, bar, value), is_right(heights, journey.ways, bar, value))
        return None if found is None else len(found), bool(journey.ways)

    def changed(self, maker, journey, found, high):
        """Lists with a place left out, put in or exchanged, and such as are not ascending."""
        for at in range(len(found)):
            yield found[:at] + found[at + 1:]
            yield found[:at + 1] + found[at:]
            for place in [maker.choice(journey.chart.places()), *maker.choices(high, k=2)]:
                yield found[:at] + [place] + found[at + 1:]
                yield sorted(found[:at] + [place] + found[at + 1:])
        for place in journey.chart.places():
            yield sorted({*found, place})
        yield found[::-1]
        yield high
        yield []

    def test_about_the_promise(self):
        met = []
        for maker, journey, lot in trips_and_lots(190, 120):
            promise = calmest(lot, journey.trip)
            bars = [0, 99, lot.chart.top] if promise is None else [promise[0] - 1, promise[0], promise[0] + 1, 0]
            for bar in bars:
                if 0 <= bar < 100:
                    met.append(self.check(maker, journey, lot, bar))
        self.assertGreater(met.count((0, False)), 30)
        self.same([met.count((0, True)), met.count((None, False))], [0, 0])
        for many in [None, 1]:
            self.assertGreater(met.count((many, True)), 10, many)

    def test_water_in_which_each_place_is_by_itself(self):
        maker = random.Random(193)
        met = []
        for _ in range(120):
            chart = Chart([[9] * 3 for _ in range(3)], [CALM_WIND] * 3)
            journey = random_journey(maker, chart, 2)
            lot = Lot(chart, [at_most(maker.sample(chart.places(), maker.randint(1, 24)), 0)])
            met.append(self.check(maker, journey, lot, maker.randint(0, 8)))
        self.assertGreater(len([many for many, _ in met if many and many > 1]), 10)
        self.assertGreater(len([many for many, _ in met if many is None]), 5)

    def test_full_skies(self):
        for maker, journey in journeys(191, 40):
            for bar in [0, journey.chart.top - 1, journey.chart.top]:
                self.check(maker, journey, Lot(journey.chart), bar)

    def test_the_least_promise(self):
        for _, journey, lot in trips_and_lots(192, 40):
            told = [bar for bar in range(0, 12) if barrier(lot, journey.trip, bar) is None]
            promise = calmest(lot, journey.trip)
            self.same(told, [] if promise is None else list(range(promise[0], 12)))
            if promise is not None:
                self.same([surely_calm(lot, promise[1], bar) for bar in told], [True] * len(told))


class Examples(LotCase):
    def test_an_example(self):
        chart = Chart([[9, 9]], [CALM_WIND] * 2)
        lot = Lot(chart, [at_most([(0, 0, 0), (2, 0, 0)], 0)])
        trip = Trip(chart, (0, 0), (0, 0))
        self.same([barrier(lot, trip, 8), barrier(lot=lot, trip=trip, bar=9)], [[(1, 0, 0), (1, 0, 1)], None])
        self.same([is_barrier(lot, trip, 8, value) for value in [
            [(1, 0, 0), (1, 0, 1)], ((1, 0, 0), (1, 0, 1)), [(1, 0, 1), (1, 0, 0)], [(1, 0, 0)], [(1, 0, 0)] * 2, [],
            (), [(0, 0, 0)], [(0, 0, 0), (1, 0, 0)], [(1, 0, 0), (1, 0, 1), (2, 0, 1)]]], [True, True] + [False] * 8)
        self.same(is_barrier(lot=lot, trip=trip, bar=9, value=[]), False)
        guarded = GuardedTrip(chart, (0, 0), (0, 0), [(1, 0, 1)])
        self.same([barrier(lot, guarded, 0), is_barrier(lot, guarded, 0, [(1, 0, 0)]), is_barrier(
            lot, guarded, 0, [(1, 0, 0), (1, 0, 1)])], [[(1, 0, 0)], True, False])

    def test_the_start_and_the_goal(self):
        lot = Lot(CHART)
        trip = Trip(CHART, (0, 0), (0, 0))
        for place in [A, C]:
            self.same(is_barrier(lot, trip, 8, place), True)
        self.same([barrier(lot, trip, 8) in [A, C], is_barrier(lot, trip, 8, A + C), barrier(lot, trip, 9)],
                  [True, False, None])

    def test_trips_without_ways(self):
        chart = open_chart(3, 3)
        for trip in [Trip(chart, (0, 0), (2, 2)), GuardedTrip(chart, (0, 0), (0, 0), [(0, 0, 0)]),
                     GuardedTrip(chart, (0, 0), (0, 0), [(3, 0, 0)])]:
            for bar in [0, 9, 99]:
                self.same([barrier(Lot(chart), trip, bar), is_barrier(Lot(chart), trip, bar, []), is_barrier(
                    Lot(chart), trip, bar, ()), is_barrier(Lot(chart), trip, bar, [(1, 1, 1)])],
                    [[], True, True, False])

    def test_what_is_changed_afterwards(self):
        lot, trip = Lot(CHART), Trip(CHART, (0, 0), (0, 0))
        told = barrier(lot, trip, 8)
        wanted = list(told)
        told.clear()
        self.same(barrier(lot, trip, 8), wanted)

    def test_the_largest_chart(self):
        chart = largest_chart()
        lot = Lot(chart, [at_most([(0, 0, 0), (8, 5, 3)], 40)])
        trip = Trip(chart, (0, 0), (5, 3))
        told = barrier(lot, trip, 50)
        self.same([is_barrier(lot, trip, 50, told), is_barrier(lot, trip, 50, told[1:]), barrier(lot, trip, 99)],
                  [True, False, None])
        self.same(is_barrier(lot, trip, 50, chart.places()), False)

    def test_any_values(self):
        lot = Lot(CHART)
        for trip in [Trip(CHART, (0, 0), (0, 0)), Trip(CHART, (0, 0), (0, 1), last=0)]:
            for value in [value for value in any_values() if value not in ([], (), ((0, 0, 0),))]:
                self.same(self.told(is_barrier, lot, trip, 0, value), False)
            for value in [*wrong_places(CHART)]:
                self.same(is_barrier(lot, trip, 0, [value]) and value != (0, 0, 0), False)
                self.same(is_barrier(lot, trip, 0, [A[0], value]), False)
            for value in [(0, 0, 0), {A[0]: 1}, "0.0.0", [[0, 0, 0]], [(0, 0, False)], [(False, 0, 0)], trip, lot]:
                self.same(is_barrier(lot, trip, 0, value), False)


class Errors(LotCase):
    def test_errors(self):
        trips = [Trip(CHART, (0, 0), (0, 0)), Trip(CHART, (0, 0), (0, 1), last=0)]
        calls = [barrier, lambda lot, trip, bar: is_barrier(lot, trip, bar, []),
                 lambda lot, trip, bar: is_barrier(lot, trip, bar, None)]
        for call in calls:
            for lot in [example(), *impossible_lots()]:
                for chart in [OTHER, Chart([[0]])]:
                    for bar in [0, None]:
                        self.refused_by(OtherChart(), call, lot, Trip(chart, (0, 0), (0, 0)), bar)
                for trip in trips:
                    for bar in NO_BARS:
                        self.refused_by(InvalidNumber(bar), call, lot, trip, bar)
            for trip in trips:
                for bar in [0, 99]:
                    self.raises_without_a_sky(call, trip, bar)
