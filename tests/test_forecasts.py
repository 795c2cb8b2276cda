"""Forecasts against all skies of small charts, row by row and number by number."""

from highestsky.charts import Chart
from highestsky.errors import InvalidNumber, InvalidRegion
from highestsky.forecasts import (
    forecast_rows, greatest_height, height_span, least_height, possible_heights, skipped_heights, sky_for,
)
from highestsky.lots import Lot
from highestsky.sayings import at_least, at_most, exactly, if_then, level, squall_most, under
from highestsky.skies import Sky
from tests.helpers import NO_REGIONS, any_values, largest_chart, wrong_places
from tests.test_verdicts import CHART, A, B, C, CALM, D, FIVE, LOW, LotCase, example, impossible_lots
from tests.worlds import PLAIN, cases, state

NO_NUMBERS = [value for value in any_values() if type(value) is not int] + [LOW, Sky(CHART), "5", (5,), [5]]


class ForecastCase(LotCase):
    def refuses_regions(self, call):
        """Checks the errors for regions, ahead of all others."""
        for lot in [example(), *impossible_lots()[:2]]:
            for value in NO_REGIONS:
                self.refused_by(InvalidRegion(-1), call, lot, value)
            for value in wrong_places(CHART):
                self.refused_by(InvalidRegion(0), call, lot, [value])
                self.refused_by(InvalidRegion(1), call, lot, (A[0], value, value))
                self.refused_by(InvalidRegion(39), call, lot, A * 39 + [value])


class Heights(ForecastCase):
    def check(self, world, lot, found, region):
        heights = sorted({world.height(at, region) for at in found})
        least, greatest = heights[0], heights[-1]
        self.same(self.told(greatest_height, lot, region), greatest)
        self.same(self.told(least_height, lot, region), least)
        self.same(self.told(height_span, lot, region), (least, greatest))
        self.same(self.told(possible_heights, lot, region), heights)
        skipped = [number for number in range(least, greatest) if number not in heights]
        self.same(self.told(skipped_heights, lot, region), skipped)
        for number in range(world.chart.top + 3):
            sky = self.told(sky_for, lot, region, number)
            self.same(sky is None, number not in heights)
            if sky is not None:
                same = [at for at in found if world.height(at, region) == number]
                self.assertIn(world.index_of(sky), same)
                self.assertTrue(all(world.sky(at).is_below(sky) for at in same))
        return skipped

    def test_against_all_skies(self):
        met = []
        for maker, world, sayings in cases(90, 25, most=4):
            lot, found = Lot(world.chart, sayings), world.skies_of(sayings)
            if found:
                met.append(self.check(world, lot, found, world.region(maker)))
        self.assertGreater(len(met) - met.count([]), 0)

    def test_skipped(self):
        met = []
        for maker, world, sayings in cases(91, 15, most=3):
            region, amount = world.region(maker), maker.randint(1, world.chart.top)
            sayings.append(if_then(region, amount, region, amount + maker.randint(1, 2)))
            lot, found = Lot(world.chart, sayings), world.skies_of(sayings)
            if found:
                met.append(self.check(world, lot, found, region))
        self.assertGreater(len(met) - met.count([]), 10)

    def test_plain_lots_skip_nothing(self):
        for maker, world, sayings in cases(92, 15, most=4, kinds=PLAIN):
            lot, found = Lot(world.chart, sayings), world.skies_of(sayings)
            if found:
                self.same(self.check(world, lot, found, world.region(maker)), [])

    def test_examples(self):
        lot = example()
        self.same([height_span(lot, C), height_span(lot, B), height_span(lot, D), greatest_height(lot, C + D)],
                  [(3, 4), (6, 7), (5, 6), 6])
        self.same([possible_heights(lot, A), skipped_heights(lot, A), sky_for(lot, C, 3).squalls()],
                  [[0, 1, 2, 3, 4], [], [(A[0], 3), (B[0], 6), (C[0], 3)]])
        self.same([greatest_height(lot=lot, region=C), least_height(lot=lot, region=C), height_span(lot=lot, region=C),
                   possible_heights(lot=lot, region=C), skipped_heights(lot=lot, region=C)], [4, 3, (3, 4), [3, 4], []])
        self.same(sky_for(lot=lot, region=C, number=4) == lot.sky, True)
        self.same([sky_for(lot, C, number) is None for number in [0, 2, 5, 9, 10, 99]], [True] * 6)

    def test_one_cell(self):
        for kept, heights in [([if_then(A, 1, A, 3)], [0, 3, 4, 5]), ([if_then(A, 1, A, 3), at_least(A, 1)], [3, 4, 5]),
                              ([if_then(A, 1, A, 3), if_then(A, 4, A, 5)], [0, 3, 5]), ([exactly(A, 0)], [0]),
                              ([at_least(A, 5)], [5]),
                              ([if_then(A, 1, A, 6)], [0]), ([], [0, 1, 2, 3, 4, 5])]:
            lot = Lot(Chart([[0]], top=5), kept)
            self.same(possible_heights(lot, A), heights)
            self.same(skipped_heights(lot, A), [number for number in range(heights[0],
                                                                           heights[-1]) if number not in heights])
            self.same(height_span(lot, A), (heights[0], heights[-1]))

    def test_regions_of_any_form(self):
        lot = example()
        for region in [C + D, D + C, (D[0], C[0], D[0]), C * 20 + D * 20]:
            self.same([height_span(lot, region), possible_heights(lot, region)], [(5, 6), [5, 6]])

    def test_more_sayings(self):
        for maker, world, sayings in cases(93, 15, most=3):
            lot = Lot(world.chart, sayings)
            more = lot.with_sayings([world.saying(maker)])
            if more.can_be:
                region = world.region(maker)
                (least, greatest), (low, high) = height_span(lot, region), height_span(more, region)
                self.same([least <= low, high <= greatest], [True, True])

    def test_sixty_sayings_and_the_largest_chart(self):
        lot = Lot(CHART, [LOW, CALM, FIVE] * 20)
        self.same([height_span(lot, C), possible_heights(lot, C), sky_for(lot, C, 3) is None], [(3, 4), [3, 4], False])
        chart = largest_chart()
        places = chart.places()
        limits = [at_most(places[at:at + 40], 90 - at) for at in range(0, 60, 2)]
        lot = Lot(chart, [*limits, at_least(places[300:], 70)])
        self.same([lot.can_be, greatest_height(lot, places[:30])], [True, lot.sky.region_height(places[:30])])
        region = places[300:]
        heights = possible_heights(lot, region)
        self.same([heights[0], heights == list(range(70, 100)), height_span(lot, region)], [70, True, (70, 99)])

    def test_errors(self):
        for call in [greatest_height, least_height, height_span, possible_heights, skipped_heights,
                     lambda lot, region: sky_for(lot, region, 100), lambda lot, region: sky_for(lot, region, 5)]:
            self.refuses_regions(call)
            self.raises_without_a_sky(call, A)
            self.raises_without_a_sky(call, region=C + D)

    def test_numbers_of_sky_for(self):
        lot = example()
        for number in [-1, 100, 101, 10 ** 6, -100, *NO_NUMBERS]:
            self.refused_by(InvalidNumber(number), sky_for, lot, C, number)
        for number in [-1, 100, None, True]:
            self.raises_without_a_sky(sky_for, C, number)
            self.refused_by(InvalidRegion(0), sky_for, lot, [None], number)
        self.same([sky_for(lot, C, 99), sky_for(Lot(CHART), A, 0).squall(A[0])], [None, 0])


class Rows(ForecastCase):
    def test_against_all_skies(self):
        for maker, world, sayings in cases(94, 8, most=3):
            lot, found = Lot(world.chart, sayings), world.skies_of(sayings)
            if found:
                for hour in range(world.chart.last + 1):
                    wanted = []
                    for row, column in world.chart.cells():
                        heights = [world.height(at, [(hour, row, column)]) for at in found]
                        wanted.append(f"{row:3}{column:3}{min(heights):4}{max(heights):4}")
                    before = state(lot)
                    self.same(list(forecast_rows(lot, hour)), wanted)
                    self.same(state(lot), before)

    def test_columns(self):
        self.same(list(forecast_rows(example(), 0)), ["  0  0   0   4", "  0  1   6   7"])
        self.same(list(forecast_rows(lot=example(), hour=1)), ["  0  0   3   4", "  0  1   5   6"])
        lot = Lot(Chart([[None, None], [None, 0], [3, None]], top=99), [at_least([(0, 1, 1)], 10)])
        self.same(list(forecast_rows(lot, 0)), ["  1  1  10  99", "  2  0   0  99"])

    def test_the_largest_chart(self):
        rows = list(forecast_rows(Lot(largest_chart(), [at_most([(8, 5, 5)], 50)]), 8))
        self.same([len(rows), rows[0], rows[-1]], [36, "  0  0   0  99", "  5  5   0  50"])

    def test_the_lot_as_it_is(self):
        lot = Lot(CHART)
        rows = forecast_rows(lot, 1)
        lot.put(LOW, CALM)
        self.same(next(rows), "  0  0   0   4")
        # The lot is asked when the first item is requested, and not again.
        lot.put(at_most(D, 2))
        self.same([list(rows), list(forecast_rows(lot, 1))], [["  0  1   0   6"], ["  0  0   0   4", "  0  1   0   2"]])
        rows = forecast_rows(lot, 1)
        self.same(next(rows), "  0  0   0   4")
        lot.put(at_least(A, 10))
        self.same(list(rows), ["  0  1   0   2"])

    def test_errors_come_with_the_first_item(self):
        for hour in [2, -1, 9, 100, *NO_NUMBERS]:
            for lot in [example(), *impossible_lots()]:
                rows = forecast_rows(lot, hour)
                self.refused(InvalidNumber(hour), next, rows)
                self.same(list(rows), [])
        self.refused_by(InvalidNumber(1), lambda lot: list(forecast_rows(lot, 1)), Lot(Chart([[0]])))
        for hour in [0, 1]:
            self.raises_without_a_sky(lambda lot, hour: next(forecast_rows(lot, hour)), hour)
        lot = example()
        rows = forecast_rows(lot, 0)
        lot.put(at_most(B, 5))
        self.no_sky(lambda lot: next(rows), lot)
        lot = impossible_lots()[0]
        rows = forecast_rows(lot, 0)
        lot.take_back(3)
        self.same(list(rows), ["  0  0   0   4", "  0  1   6   7"])


class Facts(ForecastCase):
    def test_greatest_heights_are_those_of_one_sky(self):
        for maker, world, sayings in cases(95, 10, most=4):
            lot = Lot(world.chart, sayings)
            if lot.can_be:
                for place in world.places:
                    self.same(greatest_height(lot, [place]), lot.sky.height(place))

    def test_levels_join_heights(self):
        lot = Lot(CHART, [level(B, A, 2), under(A, A, 0)])
        self.same([height_span(lot, A), height_span(lot, B), sky_for(lot, A, 3).height(B[0])], [(0, 7), (2, 9), 5])
        lot = Lot(CHART, [squall_most(place, 0) for place in CHART.places()])
        self.same([height_span(lot, A + B + C + D), possible_heights(lot, D)], [(0, 0), [0]])
