"""Blind, seeing and informed promises against all ways and all cases."""

import random

from highestsky.charts import Chart
from highestsky.doubts import Doubt
from highestsky.errors import InvalidNumber, NoCase, OtherChart
from highestsky.hedges import blind_promise, informed_promise, seeing_promise, worth_of_seeing
from highestsky.lots import Lot
from highestsky.promises import calmest
from highestsky.sayings import at_least, at_most
from highestsky.trips import GuardedTrip, Trip
from tests.helpers import CALM_WIND, any_values, largest_chart
from tests.journeys import Journey, journeys, open_chart
from tests.test_doubts import DoubtCase, impossible, shown, torn
from tests.test_promises import OTHER, random_lot
from tests.test_verdicts import CHART, A, LotCase, example

CALLS = [blind_promise, seeing_promise, worth_of_seeing]


def worst(heights, way):
    """The greatest roughness of a way over the dicts of heights of all cases."""
    return max(max(case[place] for place in way) for case in heights)


def informed(heights, ways, at):
    """The informed promise by the words of [42], for the hour of the places with this index."""
    found = []
    for beginning in {tuple(way[:at + 1]) for way in ways}:
        whole = [way for way in ways if tuple(way[:at + 1]) == beginning]
        found.append(max(min(worst([case], way) for way in whole) for case in heights))
    return min(found)


def random_doubt(maker, chart):
    """A doubt of ceilings by several gauges, and now and then of floors."""
    lot = Lot(chart)
    for name in maker.sample("abcde", maker.randint(1, 4)):
        low = maker.sample(chart.places(), maker.randint(1, min(40, len(chart.places()))))
        lot.put(at_most(low, maker.randint(0, chart.top // 2), gauge=name))
        if maker.random() < 0.4:
            lot.put(at_least(maker.sample(chart.places(), 1), maker.randint(1, chart.top), gauge=name))
    lot.put(*random_lot(maker, chart).sayings()[:2])
    return Doubt(lot, allowed=maker.randint(0, 2))


class AllWays(DoubtCase):
    def check(self, journey, doubt):
        heights = [doubt.case_lot(names).sky.heights() for names in doubt.cases()]
        before = shown(doubt)
        blind = blind_promise(doubt, journey.trip)
        wanted = min(worst(heights, way) for way in journey.ways)
        self.same([type(blind), len(blind), blind[0], type(blind[1])], [tuple, 2, wanted, list])
        self.same([blind[1] in journey.ways, worst(heights, blind[1])], [True, wanted])
        seeing = max(min(worst([case], way) for way in journey.ways) for case in heights)
        self.same([seeing_promise(doubt, journey.trip), worth_of_seeing(doubt, journey.trip)],
                  [seeing, wanted - seeing])
        told = [informed_promise(doubt, journey.trip, hour) for hour in range(journey.first, journey.last + 1)]
        self.same(told, [informed(heights, journey.ways, at) for at in range(len(told))])
        # From seeing to blind it never falls.
        self.same([told[0], told[-1], told], [seeing, wanted, sorted(told)])
        worst_heights = doubt.worst_heights()
        self.same(min(max(worst_heights[place] for place in way) for way in journey.ways), wanted)
        self.same(seeing, max(calmest(doubt.case_lot(names), journey.trip)[0] for names in doubt.cases()))
        self.same(shown(doubt), before)
        return len(heights), len(set(told)), wanted > seeing

    def test_at_each_hour(self):
        met = []
        for maker, journey in journeys(230, 200):
            doubt = random_doubt(maker, journey.chart)
            if doubt.can_be and journey.ways:
                met.append(self.check(journey, doubt))
            elif doubt.can_be:
                for call in CALLS:
                    self.same(call(doubt, journey.trip), None)
                for hour in range(journey.first, journey.last + 1):
                    self.same(informed_promise(doubt, journey.trip, hour), None)
        self.assertGreater(len([cases for cases, _, _ in met if cases > 2]), 10)

    def test_water_in_which_each_place_is_by_itself(self):
        maker, met = random.Random(231), []
        chart = Chart([[9] * 3 for _ in range(3)], [CALM_WIND] * 4)
        for _ in range(60):
            # Each gauge that is false lets its own places go.
            known = [at_most([place], maker.randint(2, 9) if 0 < place[0] < 4 else 0) for place in chart.places()]
            said = [at_most([place], maker.randint(0, 2), gauge=maker.choice("abcd")) for place in chart.places()]
            doubt = Doubt(Lot(chart).with_sayings(known + said), allowed=maker.randint(1, 2))
            forbidden = maker.sample(chart.places()[9:-9], 2)
            journey = Journey(chart, (1, 1), maker.choice(chart.cells()), 0, 4, forbidden)
            if journey.ways:
                met.append(self.check(journey, doubt))
        self.assertGreater(len([several for _, several, _ in met if several > 2]), 5)
        self.assertGreater(len([True for _, _, worth in met if worth]), 20)

    def test_no_gauge_is_allowed(self):
        for maker, journey in journeys(233, 40):
            lot = random_lot(maker, journey.chart)
            doubt = Doubt(lot, allowed=0)
            if journey.ways:
                promise = calmest(lot, journey.trip)
                self.same([blind_promise(doubt, journey.trip), seeing_promise(doubt, journey.trip),
                           worth_of_seeing(doubt, journey.trip)], [promise, promise[0], 0])


class Examples(LotCase):
    def test_two_ways(self):
        chart = Chart([[9, 9]], [CALM_WIND] * 2, top=9)
        lot = Lot(chart, [at_most([(0, 0, 0), (0, 0, 1), (2, 0, 0), (2, 0, 1)], 0), at_most([(1, 0, 0)], 0, gauge="a"),
                          at_most([(1, 0, 1)], 0, gauge="b")])
        doubt, trip = Doubt(lot), Trip(chart, (0, 0), (0, 0))
        self.same([doubt.cases(), blind_promise(doubt=doubt, trip=trip)[0], seeing_promise(doubt=doubt, trip=trip),
                   worth_of_seeing(doubt=doubt, trip=trip)], [[("a",), ("b",)], 9, 0, 9])
        self.same([informed_promise(doubt=doubt, trip=trip, hour=hour) for hour in range(3)], [0, 9, 9])
        guarded = GuardedTrip(chart, (0, 0), (0, 0), [(1, 0, 1)])
        self.same([blind_promise(doubt, guarded), seeing_promise(doubt, guarded), informed_promise(doubt, guarded, 0)],
                  [(9, [(0, 0, 0), (1, 0, 0), (2, 0, 0)]), 9, 9])
        blind_promise(doubt, guarded)[1].clear()
        self.same(len(blind_promise(doubt, guarded)[1]), 3)

    def test_one_place(self):
        doubt, trip = torn(), Trip(CHART, (0, 0), (0, 0), first=1, last=1)
        self.same([blind_promise(doubt, trip), seeing_promise(doubt, trip), informed_promise(doubt, trip, 1)],
                  [(9, [(1, 0, 0)]), 9, 9])

    def test_the_largest_chart(self):
        chart = largest_chart()
        maker = random.Random(234)
        lot = Lot(chart, [at_most(maker.sample(chart.places(), 5), maker.randint(10, 60),
                                  gauge=maker.choice("abcdefgh"))
                          for _ in range(60)])
        doubt, trip = Doubt(lot, allowed=2), Trip(chart, (0, 2), (3, 4))
        told = [informed_promise(doubt, trip, hour) for hour in range(9)]
        self.same([told[0], told[8], told == sorted(told)],
                  [seeing_promise(doubt, trip), blind_promise(doubt, trip)[0], True])


class Errors(DoubtCase):
    def test_charts(self):
        for doubt in [torn(), *impossible()]:
            for chart in [OTHER, Chart([[0]])]:
                for trip in [Trip(chart, (0, 0), (0, 0)), GuardedTrip(chart, (0, 0), (0, 0), [(0, 0, 0)])]:
                    for call in CALLS:
                        self.refused_doubt(OtherChart(), doubt, call, doubt, trip)
                    for hour in [0, -1, None]:
                        self.refused_doubt(OtherChart(), doubt, informed_promise, doubt, trip, hour)

    def test_no_case(self):
        for doubt in impossible():
            for trip in [Trip(CHART, (0, 0), (0, 0)), Trip(CHART, (0, 0), (0, 1), last=0)]:
                for call in CALLS:
                    self.refused_doubt(NoCase(), doubt, call, doubt, trip)
                for hour in [0, -1, None]:
                    self.refused_doubt(NoCase(), doubt, informed_promise, doubt, trip, hour)

    def test_hours(self):
        chart = open_chart(3, 3)
        doubt = Doubt(Lot(chart))
        for trip in [Trip(chart, (0, 0), (0, 0), first=1, last=2), Trip(chart, (0, 0), (2, 2), first=1, last=2),
                     GuardedTrip(chart, (0, 0), (0, 0), [(1, 0, 0)], first=1, last=2)]:
            for hour in [0, 3, 4, -1, *[value for value in any_values() if type(value) is not int], "1", [1]]:
                self.refused_doubt(InvalidNumber(hour), doubt, informed_promise, doubt, trip, hour)
        self.same([informed_promise(Doubt(example()), Trip(CHART, (0, 0), (0, 0)), hour) for hour in [0, 1]], [4, 4])
        self.same(informed_promise(Doubt(Lot(CHART, [at_most(A, 3)])), Trip(CHART, (0, 0), (0, 1), last=0), 0), None)
