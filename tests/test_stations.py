"""Stations and their readings against all skies of small charts."""

from highestsky.charts import Chart
from highestsky.errors import InvalidRegion, InvalidSaying, InvalidStation, OffChart
from highestsky.lots import Lot
from highestsky.sayings import at_least, at_most, exactly, if_then, level, squall_most, under
from highestsky.skies import Sky
from highestsky.stations import best_station, check_stations, is_silent, open_readings, settles
from tests.helpers import NO_REGIONS, Case, any_values, largest_chart, wrong_places
from tests.test_verdicts import CHART, A, B, C, CALM, D, LOW, OFF, LotCase, example, impossible_lots, verdict_of
from tests.worlds import cases

# Values that are no list of 1 to 6 items.
NO_LISTS = [None, True, False, 0, 7, "", "0.0.0", [], (), [A] * 7, (A,) * 7, [None] * 7, {0: A}, Chart([[0]])]


def readings_of(world, found, station):
    """A dict from the possible readings of a station, ascending, to the indexes of the skies that have it."""
    heights = {at: world.height(at, station) for at in found}
    return {height: [at for at in found if heights[at] == height] for height in sorted(set(heights.values()))}


def open_of(world, found, station, saying):
    groups = readings_of(world, found, station)
    return [reading for reading, group in groups.items() if verdict_of(world, group, saying) == "open"]


def wrong_stations():
    """Pairs of what is no list of stations and the index that is told of it."""
    for value in NO_LISTS:
        yield value, -1
    for value in NO_REGIONS:
        for good in [A, tuple(C), A * 40, (D[0],) * 40]:
            yield [value], 0
            yield [good, value, value], 1
            yield (good,) * 5 + (value,), 5
    for value in wrong_places(CHART):
        yield [[value]], 0
        yield [A, (A[0], value, None)], 1
        yield (A, B, C, [A[0]] * 39 + [value], []), 3
    # A region is no list of stations.
    yield A, 0
    yield tuple(A[0]), 0


class StationCase(LotCase):
    def refuses_stations(self, call):
        """Checks how a call with a lot and stations refuses wrong ones, ahead of all else."""
        for lot in [example(), *impossible_lots()[:1]]:
            for value, at in wrong_stations():
                self.refused_by(InvalidStation(at), call, lot, value)

    def refuses_regions(self, call):
        for lot in [example(), *impossible_lots()[:1]]:
            for value in NO_REGIONS:
                self.refused_by(InvalidRegion(-1), call, lot, value)
            for value in wrong_places(CHART):
                self.refused_by(InvalidRegion(0), call, lot, [value])
                self.refused_by(InvalidRegion(1), call, lot, (A[0], value, value))


class Checking(Case):
    def test_right_ones(self):
        for stations in [[A], (A,), [A, A], [A] * 6, [A, tuple(B), C + D, A * 40, (D[0],) * 40], [[A[0], A[0]]]]:
            self.same(check_stations(CHART, stations), None)
        self.same(check_stations(chart=CHART, stations=[A]), None)

    def test_wrong_ones(self):
        for value, at in wrong_stations():
            self.refused(InvalidStation(at), check_stations, CHART, value)
        for value in any_values():
            self.refused(InvalidStation(0 if isinstance(value, (list, tuple)) and 0 < len(value) < 7 else -1),
                         check_stations, CHART, value)
        self.refused(InvalidStation(1), check_stations, Chart([[0]]), [A, C])


class Readings(LotCase):
    def check(self, world, lot, found, station, saying):
        wanted = open_of(world, found, station, saying)
        self.same(self.told(open_readings, lot, station, saying), wanted)
        self.same(self.told(settles, lot, station, saying), not wanted)
        groups = readings_of(world, found, station)
        self.same(self.told(is_silent, lot, station), len(groups) == 1)
        for reading, group in groups.items():
            # The reading of a silent station leaves the skies as they are.
            self.same(world.skies_of([*lot.sayings(), exactly(station, reading)]), group)
        return not wanted, len(groups) == 1, verdict_of(world, found, saying)

    def test_against_all_skies(self):
        met = []
        for maker, world, sayings in cases(140, 25, most=4):
            lot, found = Lot(world.chart, sayings), world.skies_of(sayings)
            if found:
                for _ in range(3):
                    met.append(self.check(world, lot, found, world.region(maker), world.saying(maker)))
        self.assertGreater(met.count((True, False, "open")), 20)
        self.assertGreater(met.count((False, False, "open")), 20)
        self.assertGreater(met.count((False, True, "open")), 10)
        for word in ["sure", "never"]:
            self.assertGreater(met.count((True, False, word)), 10)
            self.same(met.count((False, False, word)) + met.count((False, True, word)), 0)

    def test_best_stations(self):
        met = []
        for maker, world, sayings in cases(141, 15, most=3):
            lot, found = Lot(world.chart, sayings), world.skies_of(sayings)
            if found:
                saying = world.saying(maker)
                stations = [world.region(maker) for _ in range(maker.randint(1, 6))]
                counts = [len(open_of(world, found, station, saying)) for station in stations]
                wanted = (counts.index(min(counts)), min(counts))
                self.same(self.told(best_station, lot, stations, saying), wanted)
                self.same(self.told(best_station, lot, tuple(tuple(station) for station in stations), saying), wanted)
                met.append(wanted[0] if min(counts) and min(counts) != max(counts) else -1)
        self.assertGreater(len([at for at in met if at > 0]), 5)

    def test_an_example(self):
        lot = example()
        # With the height 3 of (1, 0, 0) that of (0, 0, 1) is 6, and with 4 it may be 6 or 7.
        self.same([open_readings(lot, C, at_least(B, 7)), settles(lot, C, at_least(B, 7)),
                   settles(lot, B, at_least(B, 7)), settles(lot, D, at_least(B, 7))], [[4], False, True, True])
        self.same([open_readings(lot=lot, station=(D[0],), saying=at_most(C, 3)),
                   settles(lot=lot, station=D * 40, saying=at_most(C, 3))], [[5], False])
        self.same([is_silent(lot, D), is_silent(lot=lot, station=C)], [False, False])
        lot.put(exactly(D, 5))
        self.same([is_silent(lot, D), is_silent(lot, D * 40), is_silent(lot, C + D), is_silent(lot, C)],
                  [True, True, True, False])
        self.same(best_station(lot=lot, stations=[A, C, B], saying=at_least(B, 6)), (0, 0))

    def test_ties(self):
        lot = example()
        self.same([best_station(lot, [C, B, D, B], at_least(B, 7)), best_station(lot, [A, A], at_least(B, 7)),
                   best_station(lot, [A, C, A + C], at_least(B, 7)), best_station(lot, [A, D], at_most(C, 3)),
                   best_station(lot, [C], at_most(A, 9)), best_station(lot, [A, D, C + D], at_most(A, 9))],
                  [(1, 0), (0, 5), (1, 1), (1, 1), (0, 0), (0, 0)])

    def test_skipped_readings(self):
        lot = Lot(CHART, [if_then(A, 1, A, 4), at_most(A, 5)])
        self.same([open_readings(lot, A, at_most(A, 0)), open_readings(lot, A, squall_most(B[0], 3))],
                  [[], [0, 4, 5]])

    def test_a_silent_station_settles_nothing(self):
        lot = Lot(CHART, [exactly(A, 3)])
        self.same([is_silent(lot, A), open_readings(lot, A, at_most(B, 3)), settles(lot, A, at_most(B, 3))],
                  [True, [3], False])
        self.same([settles(lot, A, at_most(A, 3)), settles(lot, A, at_most(A, 2))], [True, True])

    def test_sixty_and_more_sayings(self):
        lot = Lot(CHART, [*example().sayings()] * 20)
        more = lot.with_sayings([exactly(D, 5)])
        self.same([open_readings(lot, C, at_least(B, 7)), open_readings(more, D, at_most(C, 3)),
                   best_station(more, [D, C], at_most(C, 3)), is_silent(more, D)], [[4], [5], (1, 0), True])

    def test_the_largest_chart(self):
        chart = largest_chart()
        place = [(8, 5, 5)]
        lot = Lot(chart, [at_most(place, 60)])
        both = [(8, 5, 5), (8, 5, 4)]
        self.same([open_readings(lot, place, at_most(both, 61)), settles(lot, place, at_most(place, 7))],
                  [list(range(61)), True])


class Errors(StationCase):
    def test_regions(self):
        for call in [lambda lot, station: settles(lot, station, None),
                     lambda lot, station: open_readings(lot, station, OFF), is_silent]:
            self.refuses_regions(call)

    def test_stations(self):
        self.refuses_stations(lambda lot, stations: best_station(lot, stations, None))

    def test_sayings(self):
        for call in [lambda lot, saying: settles(lot, A, saying), lambda lot, saying: open_readings(lot, A, saying),
                     lambda lot, saying: best_station(lot, [A, B], saying)]:
            self.raises_for_one_saying(call)

    def test_without_a_sky(self):
        for call, args in [(settles, (A, LOW)), (open_readings, (A, CALM)), (is_silent, (A,)),
                           (best_station, ([A, B], LOW))]:
            self.raises_without_a_sky(call, *args)

    def test_order(self):
        lot = Lot(CHART, [under(A, A, -1)])
        self.refused_by(InvalidRegion(-1), settles, lot, [], None)
        self.refused_by(InvalidSaying(0), settles, lot, A, [OFF])
        self.refused_by(OffChart((2, 0, 0)), open_readings, lot, A, OFF)
        self.refused_by(InvalidStation(1), best_station, lot, [A, [OFF]], None)
        self.refused_by(InvalidSaying(0), best_station, lot, [A], Sky(CHART))
        self.refused_by(OffChart((2, 0, 0)), best_station, lot, [A], level(A, [(2, 0, 0)], 1))
