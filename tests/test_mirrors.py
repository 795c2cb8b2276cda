import random

from highestsky.charts import Chart
from highestsky.errors import InvalidMirror, InvalidNumber, InvalidWind, TooMany, UnknownPlace
from highestsky.losses import losses_from
from highestsky.mirrors import MIRRORS, delayed, delayed_sky, mirrored, mirrored_place, mirrored_sky, times
from highestsky.skies import Sky
from tests.helpers import CALM_WIND, Case, any_values, largest_chart, random_sky, sample_charts, wrong_places

NO_MIRRORS = [*any_values(), "row", "Rows", "rows ", "", "north", ("rows",), ["rows"], ("rows", "columns", "cross")]
NO_WINDS = [None, 0, "", (), (0,) * 4, (0,) * 6, [0] * 5, (0, 0, 0, 0, 100), (-1, 0, 0, 0, 0), (0, True, 0, 0, 0)]
WINDS = [CALM_WIND, (None,) * 5, (1, 2, 3, 4, 5), (99, None, 0, None, 99)]


def moved(chart, place, how):
    """The place to which a mirror moves a place, as [11] says."""
    hour, row, column = place
    height, width = len(chart.rows()), len(chart.rows()[0])
    return {"rows": (hour, height - 1 - row, column), "columns": (hour, row, width - 1 - column),
            "cross": (hour, column, row)}[how]


class Mirrors(Case):
    def test_words(self):
        self.same(MIRRORS, ("rows", "columns", "cross"))

    def test_a_chart_that_is_not_square(self):
        chart = Chart([[0, 1, None], [3, 4, 5]], [(10, 20, 30, 40, 50), (0, None, 1, 2, 3)], top=7)
        wanted = Chart([[3, 4, 5], [0, 1, None]], [(10, 40, 30, 20, 50), (0, 2, 1, None, 3)], top=7)
        self.assertEqual(mirrored(chart, "rows"), wanted)
        wanted = Chart([[None, 1, 0], [5, 4, 3]], [(10, 20, 50, 40, 30), (0, None, 3, 2, 1)], top=7)
        self.assertEqual(mirrored(chart, "columns"), wanted)
        wanted = Chart([[0, 3], [1, 4], [None, 5]], [(10, 50, 40, 30, 20), (0, 3, 2, 1, None)], top=7)
        self.assertEqual(mirrored(chart, "cross"), wanted)
        self.same([mirrored_place(chart, (2, 0, 1), how) for how in MIRRORS], [(2, 1, 1), (2, 0, 1), (2, 1, 0)])
        self.same([mirrored_place(chart, (1, 1, 2), how) for how in MIRRORS], [(1, 0, 2), (1, 1, 0), (1, 2, 1)])
        sky = Sky(chart, [((0, 0, 0), 3), ((2, 1, 2), 7)])
        self.same(mirrored_sky(sky, "rows").squalls(), [((0, 1, 0), 3), ((2, 0, 2), 7)])
        self.same(mirrored_sky(sky, "columns").squalls(), [((0, 0, 2), 3), ((2, 1, 0), 7)])
        self.same(mirrored_sky(sky, "cross").squalls(), [((0, 0, 0), 3), ((2, 2, 1), 7)])
        self.same([chart.rows()[0], sky.squalls()[1]], [[0, 1, None], ((2, 1, 2), 7)])

    def test_drags_and_tolls_move_along(self):
        for chart in sample_charts():
            for how in MIRRORS:
                other = mirrored(chart, how)
                self.same([other.top, other.last, len(other)], [chart.top, chart.last, len(chart)])
                for start in chart.places():
                    self.same(mirrored_place(chart, start, how), moved(chart, start, how))
                    self.same(other.drag(moved(chart, start, how)[1:]), chart.drag(start[1:]))
                    wanted = sorted((moved(chart, end, how), loss) for end, loss in chart.steps_from(start))
                    self.same(other.steps_from(moved(chart, start, how)), wanted)

    def test_twice(self):
        maker = random.Random(12)
        for chart in [*sample_charts(), largest_chart()]:
            sky = random_sky(maker, chart)
            for how in MIRRORS:
                self.assertEqual(mirrored(mirrored(chart, how), how), chart)
                self.assertEqual(mirrored_sky(mirrored_sky(sky, how), how), sky)
                for place in chart.places():
                    there = mirrored_place(chart, place, how)
                    self.same(mirrored_place(mirrored(chart, how), there, how), place)

    def test_heights_move_along(self):
        maker = random.Random(13)
        for chart in [*sample_charts(), largest_chart()]:
            sky = random_sky(maker, chart)
            for how in MIRRORS:
                other = mirrored_sky(sky, how)
                self.assertEqual(other.chart, mirrored(chart, how))
                for place in chart.places():
                    self.same(other.squall(moved(chart, place, how)), sky.squall(place))
                    self.same(other.height(moved(chart, place, how)), sky.height(place))

    def test_wrong_words(self):
        chart = Chart([[0, 1]])
        for how in NO_MIRRORS:
            self.refused(InvalidMirror(how), mirrored, chart, how)
            self.refused(InvalidMirror(how), mirrored_sky, Sky(chart), how)
            self.refused(InvalidMirror(how), mirrored_place, chart, (0, 0, 0), how)
            self.refused(InvalidMirror(how), mirrored_place, chart, (0, 0, 2), how)

    def test_wrong_places(self):
        chart = Chart([[0, None, 0]], [CALM_WIND])
        for value in wrong_places(chart):
            for how in MIRRORS:
                self.refused(UnknownPlace(value), mirrored_place, chart, value, how)

    def test_by_name(self):
        chart = Chart([[0, 1]])
        self.same(mirrored(how="cross", chart=chart).rows(), [[0], [1]])
        self.same(mirrored_place(how="columns", place=(0, 0, 0), chart=chart), (0, 0, 1))
        self.same(mirrored_sky(how="rows", sky=Sky(chart)).squalls(), [])


class Delays(Case):
    def test_charts(self):
        for chart in sample_charts():
            for wind in WINDS:
                other = delayed(chart, wind)
                self.assertEqual(other, Chart(chart.rows(), [wind, *chart.winds()], top=chart.top))
                self.same(other.last, chart.last + 1)
                for start in chart.places():
                    wanted = [((end[0] + 1, *end[1:]), loss) for end, loss in chart.steps_from(start)]
                    self.same(other.steps_from((start[0] + 1, *start[1:])), wanted)

    def test_skies(self):
        maker = random.Random(14)
        for chart in sample_charts():
            sky = random_sky(maker, chart)
            for wind in WINDS:
                other = delayed_sky(sky, wind)
                self.assertEqual(other.chart, delayed(chart, wind))
                self.same(other.squalls(), [((place[0] + 1, *place[1:]), number) for place, number in sky.squalls()])
                for cell in chart.cells():
                    self.same([other.squall((0, *cell)), other.height((0, *cell))], [0, 0])
                for place in chart.places():
                    self.same(other.height((place[0] + 1, *place[1:])), sky.height(place))

    def test_by_name(self):
        self.same(delayed(wind=CALM_WIND, chart=Chart([[0]])).winds(), [CALM_WIND])
        self.same(delayed_sky(wind=CALM_WIND, sky=Sky.full(Chart([[0]]))).squalls(), [((1, 0, 0), 9)])

    def test_wrong_winds(self):
        chart = Chart([[0]], [CALM_WIND] * 7)
        for wind in [*NO_WINDS, chart, "00000"]:
            self.refused(InvalidWind(0), delayed, chart, wind)
            self.refused(InvalidWind(0), delayed_sky, Sky(chart), wind)

    def test_too_many_winds(self):
        chart = Chart([[0]], [CALM_WIND] * 7)
        self.same([delayed(chart, CALM_WIND).last, delayed_sky(Sky(chart), CALM_WIND).chart.last], [8, 8])
        chart = delayed(chart, CALM_WIND)
        for wind in [CALM_WIND, *NO_WINDS]:
            self.refused(TooMany(8), delayed, chart, wind)
            self.refused(TooMany(8), delayed_sky, Sky(chart), wind)


class Factors(Case):
    def test_charts(self):
        chart = Chart([[0, None], [2, 11]], [(0, 1, None, 11, 3), (None,) * 5], top=4)
        wanted = Chart([[0, None], [18, 99]], [(0, 9, None, 99, 27), (None,) * 5], top=36)
        self.assertEqual(times(chart, 9), wanted)
        self.assertEqual(times(chart, 1), chart)
        self.assertEqual(times(factor=2, chart=chart).rows(), [[0, None], [4, 22]])

    def test_heights(self):
        maker = random.Random(15)
        for chart in sample_charts():
            if chart.top > 9:
                continue
            sky = random_sky(maker, chart)
            for factor in range(1, 10):
                other = times(chart, factor)
                swell = Sky(other, [(place, number * factor) for place, number in sky.squalls()])
                self.same(swell.heights(), {place: height * factor for place, height in sky.heights().items()})
                for place in chart.places():
                    wanted = {end: loss * factor for end, loss in losses_from(chart, place).items()}
                    self.same(losses_from(other, place), wanted)

    def test_bounds(self):
        for factor, most in [(1, 99), (2, 49), (3, 33), (9, 11)]:
            for top, drag, toll in [(most, 0, 0), (1, most, 0), (1, 0, most)]:
                chart = Chart([[0, drag]], [CALM_WIND, (0, None, 0, 0, toll)], top=top)
                found = times(chart, factor)
                self.same([found.top, found.rows()[0][1], found.winds()[1][4]],
                          [top * factor, drag * factor, toll * factor])
        for factor, least in [(2, 50), (3, 34), (4, 25), (9, 12), (2, 99), (9, 99)]:
            for top, drag, toll in [(least, 0, 0), (1, least, 0), (1, 0, least), (least, least, least)]:
                chart = Chart([[0, drag], [None, 0]], [CALM_WIND, (0, None, 0, 0, toll)], top=top)
                self.refused(TooMany(99), times, chart, factor)
                self.refused(TooMany(99), times, Chart([[drag, 0]], [(toll, 0, 0, 0, 0), CALM_WIND], top=top), factor)

    def test_wrong_factors(self):
        for factor in [*any_values(), 0, 10, -2, 99, "2", (2,)]:
            if isinstance(factor, bool) or factor != 5:
                self.refused(InvalidNumber(factor), times, Chart([[0]]), factor)
                # Multiplied by anything, this chart would have too much of all.
                self.refused(InvalidNumber(factor), times, Chart([[99]], [(99,) * 5], top=99), factor)
