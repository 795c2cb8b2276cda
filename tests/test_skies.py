import random

from highestsky.charts import Chart
from highestsky.errors import InvalidNumber, InvalidSquall, OtherChart, UnknownPlace
from highestsky.losses import least_loss
from highestsky.skies import Sky
from tests.helpers import (
    CALM_WIND, Case, RegionCase, any_values, heights_of, largest_chart, least_losses, places_of, random_region, random_sky,
    random_squalls, sample_charts, wrong_places,
)


def same_chart(chart):
    """An equal chart that is another object."""
    return Chart(chart.rows(), tuple(chart.winds()), top=chart.top)


def line_chart():
    return Chart([[0, 1]], [(0, 5, 2, 5, 3)])


class Heights(Case):
    def test_example(self):
        sky = Sky(line_chart(), [((0, 0, 0), 4), ((0, 0, 1), 7), ((1, 0, 0), 4)])
        self.same(sky.heights(), {(0, 0, 0): 4, (0, 0, 1): 7, (1, 0, 0): 4, (1, 0, 1): 6})
        self.same(sky.squalls(), [((0, 0, 0), 4), ((0, 0, 1), 7), ((1, 0, 0), 4)])

    def test_hour_by_hour(self):
        maker = random.Random(3)
        for chart in sample_charts():
            for _ in range(6):
                squalls = random_squalls(maker, chart)
                table = {}
                for place, number in squalls:
                    table[place] = max(number, table.get(place, 0))
                sky = Sky(chart, squalls)
                wanted = heights_of(chart, table)
                self.same(sky.heights(), wanted)
                self.same(sky.squalls(), sorted((place, number) for place, number in table.items() if number))
                for place in chart.places():
                    self.same(sky.squall(place), table.get(place, 0))
                    self.same([sky.height(place), sky[place]], [wanted[place]] * 2)

    def test_by_least_losses(self):
        maker = random.Random(4)
        for chart in sample_charts():
            losses = least_losses(chart.rows(), chart.winds())
            for _ in range(6):
                sky = random_sky(maker, chart)
                for place in chart.places():
                    swell = [sky.squall(start) - loss for (start, end), loss in losses.items() if end == place]
                    self.same(sky.height(place), max([0, *swell]))

    def test_region_heights(self):
        maker = random.Random(5)
        for chart in sample_charts():
            sky = random_sky(maker, chart)
            for _ in range(8):
                region = random_region(maker, chart)
                wanted = max(sky.height(place) for place in region)
                self.same(sky.region_height(region), wanted)
                self.same(sky.region_height(tuple(region + region)), wanted)
            for place in chart.places():
                self.same(sky.region_height([place]), sky.height(place))

    def test_swell_that_ends_at_nothing(self):
        chart = Chart([[2]], [CALM_WIND] * 3)
        sky = Sky(chart, [((0, 0, 0), 5)])
        self.same(list(sky.heights().values()), [5, 3, 1, 0])
        sky = Sky(chart, [((0, 0, 0), 5), ((1, 0, 0), 3), ((2, 0, 0), 2)])
        self.same(list(sky.heights().values()), [5, 3, 2, 0])

    def test_barred_directions(self):
        sky = Sky(Chart([[0, 0]], [(None, 0, 0, 0, None)]), [((0, 0, 0), 5), ((0, 0, 1), 7)])
        self.same(sky.heights(), {(0, 0, 0): 5, (0, 0, 1): 7, (1, 0, 0): 0, (1, 0, 1): 5})

    def test_largest_chart(self):
        chart = largest_chart()
        sky = Sky(chart, [((0, 0, 0), 99), ((3, 2, 2), 40), ((8, 5, 5), 1)])
        heights = sky.heights()
        self.same(list(heights), places_of(chart.rows(), chart.winds()))
        for place in chart.places():
            swell = [sky.squall(place)]
            swell += [heights[start] - loss for start, loss in chart.steps_to(place)]
            self.same(heights[place], max(swell))
        loss = least_loss(chart, (0, 0, 0), [(8, 3, 4)])
        self.same(heights[(8, 3, 4)], max(99 - loss, 40 - least_loss(chart, (3, 2, 2), [(8, 3, 4)])))
        self.same(len(Sky.full(chart)), 324)
        self.same(Sky.full(chart).region_height(chart.places()[:40]), 99)


class Squalls(Case):
    def test_any_order_and_several_for_one_place(self):
        chart = line_chart()
        places = chart.places()
        pairs = [(places[3], 2), (places[0], 5), (places[3], 7), (places[1], 0), (places[3], 3), (places[0], 0)]
        maker = random.Random(6)
        for _ in range(20):
            maker.shuffle(pairs)
            sky = Sky(chart, pairs)
            self.same(sky.squalls(), [(places[0], 5), (places[3], 7)])
            self.same([sky.squall(place) for place in places], [5, 0, 0, 7])

    def test_bounds(self):
        chart = Chart([[0]], top=4)
        self.same(Sky(chart, [((0, 0, 0), 0)]).squalls(), [])
        self.same(Sky(chart, [((0, 0, 0), 4)]).squalls(), [((0, 0, 0), 4)])
        self.same(Sky(chart).squalls(), [])
        self.same(Sky(chart, ()).squalls(), [])
        self.same(Sky(chart, (((0, 0, 0), 3),)).squalls(), [((0, 0, 0), 3)])
        self.same(Sky(squalls=[((0, 0, 0), 3)], chart=chart).height((0, 0, 0)), 3)

    def test_no_list(self):
        for value in [None, True, 0, 3, "", "ab", {}, {((0, 0, 0), 1): 1}, line_chart(), Sky(line_chart())]:
            self.refused(InvalidSquall(-1), Sky, line_chart(), value)

    def test_wrong_pairs(self):
        chart = Chart([[0, None, 0]], [CALM_WIND], top=6)
        good = ((0, 0, 0), 6)
        wrong = [*any_values(), [(0, 0, 0), 1], ((0, 0, 0),), ((0, 0, 0), 1, 1), (1, (0, 0, 0)), (0, 0, 0)]
        wrong += [(value, 1) for value in wrong_places(chart)]
        wrong += [((0, 0, 0), number) for number in [-1, 7, 99, True, False, None, "1", (1,), [1], 10 ** 9]]
        for value in wrong:
            self.refused(InvalidSquall(0), Sky, chart, [value])
            self.refused(InvalidSquall(0), Sky, chart, (value, value, good))
            self.refused(InvalidSquall(2), Sky, chart, [good, good, value, None])
        # A pair alone is a tuple of two items that are no pairs.
        self.refused(InvalidSquall(0), Sky, chart, good)

    def test_with_squall(self):
        maker = random.Random(7)
        for chart in sample_charts():
            sky = random_sky(maker, chart)
            for place in chart.places():
                for number in sorted({0, 1, chart.top}):
                    other = sky.with_squall(place, number)
                    table = {**dict(sky.squalls()), place: number}
                    self.same(other.squalls(), sorted(pair for pair in table.items() if pair[1]))
                    self.same(other.heights(), heights_of(chart, table))
                    self.assertEqual(other, Sky(chart, list(table.items())))
        self.same(Sky(line_chart()).with_squall(number=2, place=(1, 0, 0)).squalls(), [((1, 0, 0), 2)])

    def test_with_wrong_squalls(self):
        chart = Chart([[0, None, 0]], [CALM_WIND], top=6)
        sky = Sky(chart, [((0, 0, 0), 2)])
        for value in wrong_places(chart):
            self.refused(UnknownPlace(value), sky.with_squall, value, 1)
            self.refused(UnknownPlace(value), sky.with_squall, value, -1)
        for number in [-1, 7, 99, True, False, None, "1", (1,), [1], 10 ** 9, chart]:
            self.refused(InvalidNumber(number), sky.with_squall, (0, 0, 0), number)
        self.same(sky.squalls(), [((0, 0, 0), 2)])

    def test_calm_and_full(self):
        for chart in sample_charts():
            full = Sky.full(chart)
            self.same(full.squalls(), [(place, chart.top) for place in chart.places()])
            self.same(full.heights(), {place: chart.top for place in chart.places()})
            self.same(Sky(chart).heights(), {place: 0 for place in chart.places()})
        self.assertEqual(Sky.full(chart=line_chart()), Sky(line_chart()).full(line_chart()))


class WrongQuestions(RegionCase):
    def test_places(self):
        chart = Chart([[0, None, 0]], [CALM_WIND])
        sky = Sky.full(chart)
        for value in wrong_places(chart):
            self.refused(UnknownPlace(value), sky.squall, value)
            self.refused(UnknownPlace(value), sky.height, value)
            self.refused(UnknownPlace(value), lambda: sky[value])
        self.same([sky.squall(place=(1, 0, 2)), sky.height(place=(1, 0, 2))], [9, 9])

    def test_regions(self):
        chart = Chart([[0, None, 0]], [CALM_WIND])
        self.refuses_regions(chart, Sky(chart).region_height)
        self.same(Sky.full(chart).region_height(region=[(1, 0, 2)] * 40), 9)


class Pairs(Case):
    def test_higher_one_of_both(self):
        maker = random.Random(8)
        for chart in sample_charts():
            for _ in range(4):
                one, other = random_sky(maker, chart), random_sky(maker, same_chart(chart))
                both = one | other
                self.same([both.squall(place) for place in chart.places()],
                          [max(one.squall(place), other.squall(place)) for place in chart.places()])
                for place in chart.places():
                    self.same(both.height(place), max(one.height(place), other.height(place)))
                region = random_region(maker, chart)
                self.same(both.region_height(region), max(one.region_height(region), other.region_height(region)))
                self.assertEqual(both, other | one)
                self.assertEqual(both.chart, chart)
                self.same([one.is_below(both), other.is_below(both)], [True, True])

    def test_the_higher_one_leaves_both_as_they_are(self):
        one, other = Sky(line_chart(), [((0, 0, 0), 3)]), Sky(line_chart(), [((0, 0, 0), 2), ((0, 0, 1), 1)])
        self.same((one | other).squalls(), [((0, 0, 0), 3), ((0, 0, 1), 1)])
        self.same([one.squalls(), other.squalls()], [[((0, 0, 0), 3)], [((0, 0, 0), 2), ((0, 0, 1), 1)]])

    def test_below(self):
        maker = random.Random(9)
        for chart in sample_charts():
            skies = [random_sky(maker, chart) for _ in range(4)] + [Sky(chart), Sky.full(same_chart(chart))]
            for one in skies:
                for other in skies:
                    wanted = all(one.squall(place) <= other.squall(place) for place in chart.places())
                    self.same(one.is_below(other), wanted)
                self.same([one.is_below(one), Sky(chart).is_below(one), one.is_below(Sky.full(chart))], [True] * 3)
        self.same(Sky(line_chart()).is_below(other=Sky(line_chart())), True)

    def test_below_goes_by_squalls(self):
        # The heights of both are equal.
        one = Sky(Chart([[0]], [CALM_WIND]), [((0, 0, 0), 3), ((1, 0, 0), 3)])
        other = Sky(Chart([[0]], [CALM_WIND]), [((0, 0, 0), 3)])
        self.same(one.heights(), other.heights())
        self.same([one.is_below(other), other.is_below(one), one == other], [False, True, False])

    def test_other_charts(self):
        sky = Sky(line_chart())
        others = [Chart([[0, 1]], [(0, 5, 2, 5, 4)]), Chart([[0, 1]], [(0, 5, 2, 5, 3)], top=8), Chart([[0, 1]]),
                  Chart([[0, 2]], [(0, 5, 2, 5, 3)])]
        for chart in others:
            other = Sky(chart)
            self.refused(OtherChart(), lambda: sky | other)
            self.refused(OtherChart(), lambda: other | sky)
            self.refused(OtherChart(), sky.is_below, other)
            self.refused(OtherChart(), other.is_below, sky)

    def test_no_skies(self):
        sky = Sky(line_chart())
        for value in [*any_values(), line_chart(), [sky], (sky,)]:
            self.refused(OtherChart(), sky.is_below, value)
            self.refused(OtherChart(), lambda: sky | value)


class Signs(Case):
    def test_equal_skies(self):
        sky = Sky(line_chart(), [((0, 0, 0), 3)])
        self.assertTrue(sky == Sky(line_chart(), [((0, 0, 0), 1), ((0, 0, 0), 3), ((1, 0, 0), 0)]))
        self.assertFalse(sky != Sky(line_chart(), (((0, 0, 0), 3),)))
        others = [Sky(line_chart()), Sky(line_chart(), [((0, 0, 0), 2)]), Sky(line_chart(), [((0, 0, 1), 3)]),
                  Sky(line_chart(), [((0, 0, 0), 3), ((0, 0, 1), 1)]),
                  Sky(Chart([[0, 1]], [(0, 5, 2, 5, 3)], top=8), [((0, 0, 0), 3)])]
        for other in others:
            self.assertFalse(sky == other)
            self.assertTrue(sky != other)

    def test_skies_equal_nothing_else(self):
        sky = Sky(line_chart())
        for value in [None, True, 0, "", repr(sky), [], (), sky.squalls(), sky.heights(), line_chart(), (sky,)]:
            self.assertFalse(sky == value)
            self.assertTrue(sky != value)

    def test_len_truth_and_repr(self):
        chart = line_chart()
        for many in range(4):
            sky = Sky(chart, [(place, 1) for place in chart.places()[:many]] + [(chart.places()[-1], 0)])
            self.same([len(sky), bool(sky), repr(sky)], [many, True, f"Sky({many} squalls)"])

    def test_iterating(self):
        for sky in [Sky(line_chart()), Sky.full(line_chart())]:
            for call in [iter, list, tuple, sorted, lambda value: [*value], lambda value: 0 in value]:
                with self.assertRaises(TypeError):
                    call(sky)

    def test_chart(self):
        chart = line_chart()
        self.assertIs(Sky(chart).chart, chart)
        self.assertEqual(Sky.full(chart).chart, chart)


class Copies(Case):
    def test_what_was_handed_in_is_changed(self):
        squalls = [((0, 0, 0), 3), ((0, 0, 0), 2)]
        sky = Sky(line_chart(), squalls)
        self.same(squalls, [((0, 0, 0), 3), ((0, 0, 0), 2)])
        squalls.clear()
        self.same(sky.squalls(), [((0, 0, 0), 3)])
        self.same(sky.heights(), {(0, 0, 0): 3, (0, 0, 1): 0, (1, 0, 0): 3, (1, 0, 1): 0})

    def test_what_was_told_is_changed(self):
        sky = Sky(line_chart(), [((0, 0, 0), 3)])
        sky.squalls().clear()
        sky.heights().clear()
        sky.heights()[(0, 0, 0)] = 9
        self.same(sky.squalls(), [((0, 0, 0), 3)])
        self.same(sky.heights(), {(0, 0, 0): 3, (0, 0, 1): 0, (1, 0, 0): 3, (1, 0, 1): 0})

    def test_a_region_is_not_changed(self):
        region = [(1, 0, 0), (0, 0, 0), (1, 0, 0)]
        Sky(line_chart()).region_height(region)
        self.same(region, [(1, 0, 0), (0, 0, 0), (1, 0, 0)])
