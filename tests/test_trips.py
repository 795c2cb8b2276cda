"""Ways and trips against all ways of small charts."""

import random

from highestsky.charts import Chart
from highestsky.errors import InvalidNumber, InvalidRegion, InvalidWay, OnLand, UnknownPlace
from highestsky.trips import GuardedTrip, Trip, check_way, is_way, many_ways, ways
from tests.helpers import CALM_WIND, Case, any_values, largest_chart, random_chart, sample_charts, wrong_places
from tests.journeys import Journey, all_ways, is_next, journeys, open_chart

# Row 0 has land in its middle; the winds bar everything, which means nothing for ways.
CHART = Chart([[0, None, 2], [99, 1, 0]], [(None,) * 5, (99,) * 5, CALM_WIND], top=3)
NO_CELLS = [*any_values(), (0, 1), (2, 0), (0, 3), (5, 5), (False, 0), (0, False), (True, 1), [0, 0], "0.0",
            (0, 0, 0), ((0, 0),), CHART]


def both(*args, **named):
    """A trip, and a guarded one without forbidden places."""
    return [Trip(*args, **named), GuardedTrip(*args, [], **named)]


class CheckWay(Case):
    def test_right_ways(self):
        for way in [[(0, 0, 0)], ((3, 1, 2),), [(0, 0, 0), (1, 0, 0), (2, 1, 0), (3, 1, 1)], ((1, 0, 2), (2, 1, 2))]:
            self.same([check_way(CHART, way), check_way(chart=CHART, way=way)], [None, None])

    def test_against_all_pairs(self):
        for chart in sample_charts():
            for place in chart.places():
                for other in chart.places():
                    if is_next(place, other):
                        self.same(check_way(chart, [place, other]), None)
                    else:
                        self.refused(InvalidWay(1), check_way, chart, [place, other])

    def test_no_list(self):
        for value in [value for value in any_values() if not isinstance(value, (list, tuple)) or not value]:
            self.refused(InvalidWay(-1), check_way, CHART, value)
        for value in [{(0, 0, 0): 1}, CHART, "0.0.0"]:
            self.refused(InvalidWay(-1), check_way, CHART, value)

    def test_no_place(self):
        for value in wrong_places(CHART):
            self.refused(InvalidWay(0), check_way, CHART, [value])
            self.refused(InvalidWay(0), check_way, CHART, (value, (0, 0, 0), None))
            self.refused(InvalidWay(1), check_way, CHART, [(0, 0, 0), value, value])
            self.refused(InvalidWay(2), check_way, CHART, [(0, 1, 1), (1, 1, 0), value])
        # A place is no way.
        self.refused(InvalidWay(0), check_way, CHART, (0, 0, 0))
        self.refused(InvalidWay(0), check_way, CHART, [[(0, 0, 0)]])

    def test_no_next_place(self):
        for way, at in [([(0, 0, 0), (0, 0, 0)], 1), ([(0, 0, 0), (2, 0, 0)], 1), ([(1, 0, 0), (0, 0, 0)], 1),
                        ([(0, 0, 0), (1, 1, 1)], 1), ([(0, 0, 0), (1, 0, 2)], 1), ([(0, 0, 0), (1, 0, 1)], 1),
                        ([(0, 1, 0), (1, 1, 0), (2, 1, 2), (3, 1, 2)], 2), ([(3, 0, 0), (4, 0, 0)], 1),
                        ([(2, 0, 0), (3, 0, 0), (3, 0, 0)], 2), ([(0, 0, 0), (1, True, 0)], 1),
                        ([(0, 0, 0), (True, 0, 0)], 1), ([(0, 0, 0)] * 400, 1)]:
            self.refused(InvalidWay(at), check_way, CHART, way)
            self.refused(InvalidWay(at), check_way, CHART, tuple(way))


class Making(Case):
    def test_attributes(self):
        for trip in both(CHART, (0, 0), (1, 2), first=1, last=2):
            self.same([trip.chart == CHART, trip.start, trip.goal, trip.first, trip.last], [True, (0, 0), (1, 2), 1, 2])
        for trip in [*both(CHART, (0, 0), (0, 0)), *both(CHART, (0, 0), (0, 0), last=None),
                     Trip(chart=CHART, start=(0, 0), goal=(0, 0), first=0, last=None),
                     GuardedTrip(chart=CHART, start=(0, 0), goal=(0, 0), forbidden=(), first=0, last=3)]:
            self.same([trip.start, trip.goal, trip.first, trip.last], [(0, 0), (0, 0), 0, 3])
        for hour in range(4):
            for trip in both(CHART, (0, 2), (1, 1), first=hour, last=hour) + both(CHART, (0, 2), (1, 1), first=hour):
                self.same([trip.first, trip.last in (hour, 3)], [hour, True])
        self.same([isinstance(GuardedTrip(CHART, (0, 0), (0, 0), []), Trip), GuardedTrip.__mro__[1]], [True, Trip])
        self.same([trip.last for trip in both(Chart([[0]]), (0, 0), (0, 0))], [0, 0])

    def test_cells(self):
        for value in NO_CELLS:
            for args in [(value, (0, 0)), (value, value), (value, None)]:
                for named in [{}, {"first": 9, "last": -1}]:
                    self.refused(OnLand(value), Trip, CHART, *args, **named)
                    self.refused(OnLand(value), GuardedTrip, CHART, *args, None, **named)
            self.refused(OnLand(value), Trip, CHART, (0, 0), value, first=None)
            self.refused(OnLand(value), GuardedTrip, CHART, (0, 0), value, None, first=None)

    def test_hours(self):
        values = [value for value in any_values() if value != 0 or isinstance(value, bool)]
        for value in [*values, -1, 4, 5, 9, "0", (0,), [0]]:
            for last in [None, 0, 3, -1, value]:
                self.refused(InvalidNumber(value), Trip, CHART, (0, 0), (0, 0), first=value, last=last)
                self.refused(InvalidNumber(value), GuardedTrip, CHART, (0, 0), (0, 0), None, first=value, last=last)
            if value is not None:
                for first in [0, 1, 3]:
                    self.refused(InvalidNumber(value), Trip, CHART, (0, 0), (0, 0), first=first, last=value)
                    self.refused(InvalidNumber(value), GuardedTrip, CHART, (0, 0), (0, 0), [None], first=first,
                                 last=value)
        for first in range(4):
            for last in range(first):
                self.refused(InvalidNumber(last), Trip, CHART, (0, 0), (0, 0), first=first, last=last)

    def test_forbidden(self):
        place = (1, 0, 0)
        self.same(GuardedTrip(CHART, (0, 0), (0, 0), [(3, 1, 2), place, place, (0, 0, 2)]).forbidden(),
                  [(0, 0, 2), (1, 0, 0), (3, 1, 2)])
        for forbidden in [[], ()]:
            self.same(GuardedTrip(CHART, (0, 0), (0, 0), forbidden).forbidden(), [])
        for forbidden in [[place] * 400, (place,) * 400]:
            self.same(GuardedTrip(CHART, (0, 0), (0, 0), forbidden).forbidden(), [place])
        for value in [None, True, 0, "", "0.0.0", {place: 1}, CHART, [place] * 401, (place,) * 401, [None] * 401]:
            self.refused(InvalidRegion(-1), GuardedTrip, CHART, (0, 0), (0, 0), value)
        for value in wrong_places(CHART):
            self.refused(InvalidRegion(0), GuardedTrip, CHART, (0, 0), (0, 0), [value])
            self.refused(InvalidRegion(2), GuardedTrip, CHART, (0, 0), (0, 0), (place, place, value, None))
            self.refused(InvalidRegion(399), GuardedTrip, CHART, (0, 0), (0, 0), [place] * 399 + [value])
        # Also places that are not at the hours of the trip.
        trip = GuardedTrip(CHART, (0, 0), (0, 0), [(0, 0, 0), (3, 0, 0)], first=1, last=2)
        self.same([trip.forbidden(), many_ways(trip)], [[(0, 0, 0), (3, 0, 0)], 1])

    def test_what_is_changed_afterwards(self):
        forbidden = [(1, 0, 0)]
        trip = GuardedTrip(CHART, (0, 0), (0, 0), forbidden)
        forbidden.clear()
        trip.forbidden().clear()
        trip.next_places((0, 0, 0)).clear()
        self.same([trip.forbidden(), trip.next_places((0, 0, 0)), trip.may_be((1, 0, 0))],
                  [[(1, 0, 0)], [(1, 1, 0)], False])
        trip = Trip(CHART, (0, 0), (0, 0))
        trip.next_places((0, 0, 0)).clear()
        self.same(trip.next_places((0, 0, 0)), [(1, 0, 0), (1, 1, 0)])


class NextPlaces(Case):
    def test_against_the_words(self):
        for _, journey in journeys(160, 60):
            trip, forbidden = journey.trip, journey.forbidden or []
            for place in journey.chart.places():
                if journey.first <= place[0] <= journey.last:
                    wanted = [other for other in journey.chart.places() if is_next(place, other)
                              and other[0] <= journey.last and other not in forbidden]
                    self.same([trip.next_places(place), trip.may_be(place)], [wanted, place not in forbidden])
                else:
                    self.refused(UnknownPlace(place), trip.next_places, place)
                    self.same(trip.may_be(place), False)

    def test_beside_land_and_at_the_edges(self):
        for trip in both(CHART, (0, 0), (0, 0)):
            self.same([trip.next_places((0, 0, 0)), trip.next_places(place=(1, 0, 2)), trip.next_places((2, 1, 1))],
                      [[(1, 0, 0), (1, 1, 0)], [(2, 0, 2), (2, 1, 2)], [(3, 1, 0), (3, 1, 1), (3, 1, 2)]])
            self.same([trip.next_places((3, 1, 1)), trip.may_be(place=(3, 1, 1)), trip.may_be((0, 0, 1))],
                      [[], True, False])
        for trip in both(open_chart(), (0, 0), (0, 0)):
            self.same(trip.next_places((0, 1, 1)), [(1, 0, 1), (1, 1, 0), (1, 1, 1), (1, 1, 2), (1, 2, 1)])

    def test_forbidden_places(self):
        trip = GuardedTrip(CHART, (0, 0), (0, 0), [(1, 0, 0), (2, 1, 0), (3, 0, 0)])
        self.same([trip.next_places((0, 0, 0)), trip.next_places((1, 0, 0)), trip.next_places((2, 1, 0)),
                   trip.next_places((3, 0, 0))], [[(1, 1, 0)], [(2, 0, 0)], [(3, 1, 0), (3, 1, 1)], []])
        self.same([trip.may_be(place) for place in [(0, 0, 0), (1, 0, 0), (2, 1, 0), (3, 0, 0), (3, 1, 0)]],
                  [True, False, False, False, True])

    def test_first_and_last_hours(self):
        for trip in both(CHART, (0, 0), (0, 0), first=1, last=2):
            for place in [(0, 0, 0), (3, 0, 0)]:
                self.refused(UnknownPlace(place), trip.next_places, place)
                self.same(trip.may_be(place), False)
            self.same([trip.next_places((1, 0, 0)), trip.next_places((2, 0, 0)), trip.may_be((1, 1, 1)),
                       trip.may_be((2, 1, 1))], [[(2, 0, 0), (2, 1, 0)], [], True, True])

    def test_any_values(self):
        for trip in [*both(CHART, (0, 0), (0, 0)), GuardedTrip(CHART, (0, 0), (0, 0), [(1, 0, 0)])]:
            for value in wrong_places(CHART):
                self.refused(UnknownPlace(value), trip.next_places, value)
                self.same(trip.may_be(value), False)


class Ways(Case):
    def test_against_all_ways(self):
        met = []
        for maker, journey in journeys(161, 200):
            wanted = journey.ways
            self.same(list(ways(journey.trip)), wanted)
            self.same(many_ways(journey.trip), len(wanted))
            for way in wanted[:20]:
                self.same([is_way(journey.trip, way), is_way(journey.trip, tuple(way))], [True, True])
            free = all_ways(journey.chart, journey.start, journey.goal, journey.first, journey.last)
            for way in free[:20]:
                self.same(is_way(journey.trip, way), way in wanted)
            for way in wanted[:3]:
                for at in range(len(way)):
                    for other in [way[:at], way[at + 1:], way[:at] + way[at:at + 1] * 2 + way[at + 1:], way[::-1],
                                  way[:at] + [maker.choice(journey.chart.places())] + way[at + 1:],
                                  way[:at] + [list(way[at])] + way[at + 1:]]:
                        self.same(is_way(journey.trip, other), other in wanted)
            met.append((len(wanted), journey.forbidden is not None))
        self.assertGreater(len([many for many, _ in met if many > 1]), 40)
        for guarded in [True, False]:
            self.assertGreater(met.count((0, guarded)), 5)

    def test_no_ways(self):
        chart = open_chart(3, 4)
        cut = Chart([[0, None, 0]], [CALM_WIND] * 3)
        for trip in [*both(chart, (0, 0), (2, 2), first=2), *both(chart, (0, 0), (2, 2), last=3),
                     *both(cut, (0, 0), (0, 2)),
                     *both(chart, (0, 0), (0, 1), first=3, last=3), *both(Chart([[0, 0]]), (0, 0), (0, 1)),
                     GuardedTrip(chart, (0, 0), (0, 0), [(0, 0, 0)]), GuardedTrip(chart, (0, 0), (0, 0), [(4, 0, 0)]),
                     GuardedTrip(chart, (0, 0), (2, 2), [(2, 0, 2), (2, 1, 1), (2, 2, 0)]),
                     GuardedTrip(Chart([[0]]), (0, 0), (0, 0), [(0, 0, 0)])]:
            self.same([list(ways(trip)), many_ways(trip)], [[], 0])
            for way in [[(trip.first, *trip.start)], [(trip.first, *trip.start), (trip.last, *trip.goal)], []]:
                self.same(is_way(trip, way), False)

    def test_one_way(self):
        for trip in both(Chart([[0]]), (0, 0), (0, 0)):
            self.same([list(ways(trip)), many_ways(trip), is_way(trip, [(0, 0, 0)])], [[[(0, 0, 0)]], 1, True])
        for trip in both(open_chart(3, 4), (0, 0), (0, 2), first=1, last=3):
            self.same(list(ways(trip=trip)), [[(1, 0, 0), (2, 0, 1), (3, 0, 2)]])
            self.same([many_ways(trip=trip), is_way(trip=trip, value=((1, 0, 0), (2, 0, 1), (3, 0, 2)))], [1, True])

    def test_many_ways(self):
        chart = largest_chart()
        trip = Trip(chart, (2, 2), (2, 2))
        counts = {(2, 2): 1}
        for _ in range(8):
            after = {}
            for (row, column), many in counts.items():
                for cell in [(row, column), (row - 1, column), (row, column + 1), (row + 1, column), (row, column - 1)]:
                    if cell in chart.cells():
                        after[cell] = after.get(cell, 0) + many
            counts = after
        self.same(many_ways(trip), counts[2, 2])
        self.assertGreater(many_ways(trip), 10000)
        first = next(ways(trip))
        self.same([first, is_way(trip, first)], [[(0, 2, 2), (1, 1, 2), (2, 0, 2), (3, 0, 1), (4, 0, 0), (5, 0, 1),
                                                  (6, 0, 2), (7, 1, 2), (8, 2, 2)], True])
        told = list(ways(trip))
        self.same([len(told), told == sorted(told), all(is_way(trip, way) for way in told[::97])],
                  [counts[2, 2], True, True])

    def test_told_ways_are_new(self):
        trip = Trip(open_chart(2, 3), (0, 0), (0, 0))
        told = []
        for way in ways(trip):
            told.append(list(way))
            way.clear()
        self.same(told, Journey(trip.chart, (0, 0), (0, 0), 0, 3).ways)

    def test_any_values(self):
        for trip in [*both(Chart([[0]]), (0, 0), (0, 0)), *both(open_chart(2, 1), (0, 0), (0, 0))]:
            # One of any_values is a way of the first trips.
            values = [value for value in any_values() if value != ((0, 0, 0),)]
            for value in [*values, trip, trip.chart, (0, 0, 0), [(0, 0, 0), (1, 0, 0), (2, 0, 0)], "0.0.0",
                          {(0, 0, 0): 1}, [(0, 0, False)], [(False, 0, 0), (1, 0, 0)], [(0, 0, 0), (True, 0, 0)],
                          [[0, 0, 0], [1, 0, 0]], [[(0, 0, 0), (1, 0, 0)]], [(0, 0, 0), (1, 0, 0), None]]:
                self.same(is_way(trip, value), False)

    def test_random_ways(self):
        maker = random.Random(162)
        for _ in range(40):
            chart = random_chart(maker, 3, 4)
            trip = Trip(chart, maker.choice(chart.cells()), maker.choice(chart.cells()))
            way = maker.choices(chart.places(), k=chart.last + 1)
            self.same(is_way(trip, way), way in list(ways(trip)))
