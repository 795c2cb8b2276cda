from highestsky.charts import Chart
from highestsky.charttexts import chart_rows_text
from highestsky.errors import InvalidChart, InvalidTop, InvalidWind, OnLand, UnknownPlace
from tests.helpers import CALM_WIND, Case, any_values, largest_chart, places_of, sample_charts, steps_of, water_of

NO_DRAGS = [True, False, -1, 100, "0", ".", (), [], (0,), [0], 10 ** 9, Chart([[0]])]
NO_LISTS = [None, True, 1, "ab", Chart([[0, 1]])]


class WrongRows(Case):
    def test_no_list_of_rows(self):
        for value in [*NO_LISTS, [], (), [[0]] * 7, ([0],) * 7]:
            self.refused(InvalidChart(-1, -1), Chart, value)

    def test_no_list_of_items(self):
        for row in [*NO_LISTS, [], (), [0] * 7, (0,) * 7]:
            self.refused(InvalidChart(0, -1), Chart, [row])
            self.refused(InvalidChart(1, -1), Chart, [[0], row])
            self.refused(InvalidChart(2, -1), Chart, ([0, 0], (0, 0), row, [0]))

    def test_uneven_rows(self):
        self.refused(InvalidChart(1, -1), Chart, [[0, 0], [0], [0]])
        self.refused(InvalidChart(1, -1), Chart, [[0], [0, 0], [0, 0]])
        self.refused(InvalidChart(2, -1), Chart, [[0, 0], [0, 0], [0, 0, 0]])

    def test_wrong_items(self):
        for item in NO_DRAGS:
            self.refused(InvalidChart(0, 0), Chart, [[item]])
            self.refused(InvalidChart(0, 1), Chart, [[0, item, item]])
            self.refused(InvalidChart(1, 2), Chart, [[0, 0, 0], (None, 99, item)])

    def test_first_wrong_row_counts(self):
        self.refused(InvalidChart(0, 1), Chart, [[0, -1], [0]])
        self.refused(InvalidChart(0, 1), Chart, [[0, -1], 3])
        self.refused(InvalidChart(1, -1), Chart, [[0, 0], [-1], [-1, 0]])
        self.refused(InvalidChart(1, -1), Chart, [[0, 0], [100, 0, 0]])
        self.refused(InvalidChart(1, 0), Chart, [[None, None], [True, True], [0]])

    def test_no_water(self):
        self.refused(InvalidChart(-1, -1), Chart, [[None]])
        self.refused(InvalidChart(-1, -1), Chart, [[None] * 6] * 6)
        self.refused(InvalidChart(1, 0), Chart, [[None], ["."]])
        self.refused(InvalidChart(1, -1), Chart, [[None], []])


class WrongWindsAndTops(Case):
    def test_no_list_of_winds(self):
        for value in [*NO_LISTS, [CALM_WIND] * 9, (CALM_WIND,) * 9, [None] * 9]:
            self.refused(InvalidWind(-1), Chart, [[0]], value)

    def test_wrong_winds(self):
        wrong = [None, 0, (), (0,) * 4, (0,) * 6, [0] * 5, (0, 0, 0, 0, 100), (-1, 0, 0, 0, 0), (0, True, 0, 0, 0)]
        for wind in wrong:
            self.refused(InvalidWind(0), Chart, [[0]], [wind])
            self.refused(InvalidWind(1), Chart, [[0]], (CALM_WIND, wind, wind))
            self.refused(InvalidWind(7), Chart, [[0]], [CALM_WIND] * 7 + [wind])

    def test_a_wind_alone_is_a_tuple_of_wrong_winds(self):
        self.refused(InvalidWind(0), Chart, [[0]], CALM_WIND)

    def test_wrong_tops(self):
        for top in [0, 100, -1, True, False, None, "9", (9,), [9], 10 ** 9]:
            self.refused(InvalidTop(top), Chart, [[0]], top=top)

    def test_order_of_errors(self):
        self.refused(InvalidChart(-1, -1), Chart, [], 0, top=0)
        self.refused(InvalidChart(0, 0), Chart, [[-1]], 0, top=0)
        self.refused(InvalidChart(-1, -1), Chart, [[None]], 0, top=0)
        self.refused(InvalidWind(-1), Chart, [[0]], 0, top=0)
        self.refused(InvalidWind(0), Chart, [[0]], [0], top=0)
        self.refused(InvalidTop(0), Chart, [[0]], [], top=0)

    def test_top_is_keyword_only(self):
        with self.assertRaises(TypeError):
            Chart([[0]], [], 9)


class Asking(Case):
    def test_defaults(self):
        chart = Chart([[3]])
        self.same([chart.top, chart.last, chart.winds(), chart.rows()], [9, 0, [], [[3]]])
        self.same(Chart(rows=[[3]], winds=[CALM_WIND], top=1).last, 1)

    def test_class_values(self):
        self.same([Chart.MOST_ROWS, Chart.MOST_HOURS], [6, 8])
        self.same([Chart([[0]]).MOST_ROWS, Chart([[0]]).MOST_HOURS], [6, 8])

    def test_bounds_of_numbers(self):
        for drag in [0, 99]:
            self.same(Chart([[drag]]).drag((0, 0)), drag)
        for top in [1, 99]:
            self.same(Chart([[0]], top=top).top, top)

    def test_rows_and_winds_are_told_as_lists(self):
        chart = Chart(((0, None), (4, 5)), ((0, 1, 2, 3, None),))
        self.same(chart.rows(), [[0, None], [4, 5]])
        self.same(chart.winds(), [(0, 1, 2, 3, None)])

    def test_rows_and_winds_there_and_back(self):
        for chart in sample_charts():
            again = Chart(chart.rows(), chart.winds(), top=chart.top)
            self.assertEqual(again, chart)
            self.same(again.last, len(chart.winds()))

    def test_cells_drags_and_places(self):
        for chart in sample_charts():
            rows = chart.rows()
            self.same(chart.cells(), water_of(rows))
            self.same([chart.drag(cell) for cell in chart.cells()], [rows[row][column] for row, column in water_of(rows)])
            self.same(chart.places(), places_of(rows, chart.winds()))
            self.same(chart.places(), sorted(chart.places()))
            self.same(len(chart), len(water_of(rows)))

    def test_neighbours(self):
        for chart in sample_charts():
            water = chart.cells()
            for row, column in water:
                near = [(row - 1, column), (row, column - 1), (row, column + 1), (row + 1, column)]
                self.same(chart.neighbours((row, column)), [cell for cell in near if cell in water])

    def test_neighbours_do_not_hang_on_winds(self):
        self.same(Chart([[0, 0]], [(None,) * 5]).neighbours(cell=(0, 0)), [(0, 1)])

    def test_cells_of_no_water(self):
        chart = Chart([[0, None, 0]])
        for value in [*any_values(), (0, 1), (0, 3), (1, 0), (5, 5), (0, False), (False, 0), (0, True), [0, 0],
                      (0, 0, 0), (-1, 0)]:
            self.refused(OnLand(value), chart.drag, value)
            self.refused(OnLand(value), chart.neighbours, value)
        self.same(chart.drag(cell=(0, 2)), 0)


class Steps(Case):
    def test_example(self):
        chart = Chart([[0, 1]], [(0, 5, 2, 5, 3)])
        self.same(chart.steps_from((0, 0, 0)), [((1, 0, 0), 0), ((1, 0, 1), 3)])
        self.same(chart.steps_from((0, 0, 1)), [((1, 0, 0), 3), ((1, 0, 1), 1)])
        self.same(chart.steps_to((1, 0, 0)), [((0, 0, 0), 0), ((0, 0, 1), 3)])
        self.same(chart.steps_to((1, 0, 1)), [((0, 0, 0), 3), ((0, 0, 1), 1)])
        self.same([chart.steps_from((1, 0, 0)), chart.steps_to((0, 0, 1))], [[], []])

    def test_each_direction_has_its_own_toll(self):
        chart = Chart([[1, 2, 3], [4, 5, 6], [7, 8, 9]], [(10, 20, 30, 40, 50)])
        wanted = [((1, 0, 1), 22), ((1, 1, 0), 54), ((1, 1, 1), 15), ((1, 1, 2), 36), ((1, 2, 1), 48)]
        self.same(chart.steps_from((0, 1, 1)), wanted)
        wanted = [((0, 0, 1), 45), ((0, 1, 0), 35), ((0, 1, 1), 15), ((0, 1, 2), 55), ((0, 2, 1), 25)]
        self.same(chart.steps_to((1, 1, 1)), wanted)

    def test_each_hour_has_its_own_wind(self):
        chart = Chart([[0]], [(3, 0, 0, 0, 0), (None, 0, 0, 0, 0), (5, 0, 0, 0, 0)])
        found = [chart.steps_from((hour, 0, 0)) for hour in range(4)]
        self.same(found, [[((1, 0, 0), 3)], [], [((3, 0, 0), 5)], []])

    def test_all_steps(self):
        for chart in sample_charts():
            steps = steps_of(chart.rows(), chart.winds())
            for place in chart.places():
                ahead = sorted((end, loss) for (start, end), loss in steps.items() if start == place)
                behind = sorted((start, loss) for (start, end), loss in steps.items() if end == place)
                self.same(chart.steps_from(place), ahead)
                self.same(chart.steps_to(place), behind)
                self.same(chart.arrivals()[place], tuple(behind))
            self.same(list(chart.arrivals()), chart.places())

    def test_unknown_places(self):
        chart = Chart([[0, None, 0]], [CALM_WIND])
        for value in [*any_values(), (2, 0, 0), (0, 0, 1), (0, 0, 3), (0, 1, 0), (True, 0, 0), (0, 0, False), [0, 0, 0],
                      (0, 0), (8, 5, 5)]:
            self.refused(UnknownPlace(value), chart.steps_from, value)
            self.refused(UnknownPlace(value), chart.steps_to, value)
            self.same(value in chart, False)
        self.same(chart.steps_to(place=(1, 0, 2)), [((0, 0, 2), 0)])
        self.same(chart.steps_from(place=(1, 0, 2)), [])

    def test_places_in_the_chart(self):
        for chart in sample_charts():
            found = [(hour, row, column) for hour in range(9) for row in range(6) for column in range(6)
                     if (hour, row, column) in chart]
            self.same(found, chart.places())


class Copies(Case):
    def test_what_was_handed_in_is_changed(self):
        row = [0, 1]
        rows = [row, [2, None]]
        winds = [CALM_WIND]
        chart = Chart(rows, winds)
        row[0] = 7
        rows.append([0, 0])
        winds.append(CALM_WIND)
        self.same([chart.rows(), chart.winds(), chart.last], [[[0, 1], [2, None]], [CALM_WIND], 1])
        self.same(chart.places(), Chart([[0, 1], [2, None]], [CALM_WIND]).places())
        self.same(chart.drag((0, 0)), 0)

    def test_what_was_told_is_changed(self):
        chart = Chart([[0, 1], [2, 3]], [CALM_WIND])
        wanted = Chart([[0, 1], [2, 3]], [CALM_WIND])
        asked = ["rows", "winds", "cells", "places", "arrivals"]
        for word in asked:
            getattr(chart, word)().clear()
        for row in chart.rows():
            row.clear()
        for call in [chart.steps_from, chart.steps_to]:
            for place in wanted.places():
                call(place).append(None)
        chart.neighbours((0, 0)).clear()
        for word in asked:
            self.same(getattr(chart, word)(), getattr(wanted, word)())
        for place in wanted.places():
            self.same(chart.steps_from(place), wanted.steps_from(place))
            self.same(chart.steps_to(place), wanted.steps_to(place))
        self.same(chart.neighbours((0, 0)), [(0, 1), (1, 0)])
        self.assertEqual(chart, wanted)

    def test_arguments_are_not_changed(self):
        rows, winds = [[0, None]], [CALM_WIND]
        Chart(rows, winds)
        self.same([rows, winds], [[[0, None]], [CALM_WIND]])


class Signs(Case):
    def test_equal_charts(self):
        chart = Chart([[0, None]], [CALM_WIND], top=4)
        self.assertTrue(chart == Chart(((0, None),), (CALM_WIND,), top=4))
        self.assertFalse(chart != Chart(((0, None),), (CALM_WIND,), top=4))
        others = [Chart([[0, 0]], [CALM_WIND], top=4), Chart([[0], [None]], [CALM_WIND], top=4),
                  Chart([[0, None]], [], top=4), Chart([[0, None]], [(0, 0, 0, 0, 1)], top=4),
                  Chart([[0, None]], [CALM_WIND], top=5), Chart([[1, None]], [CALM_WIND], top=4)]
        for other in others:
            self.assertFalse(chart == other)
            self.assertTrue(chart != other)

    def test_charts_equal_nothing_else(self):
        chart = Chart([[0]])
        for value in [None, True, 1, "", str(chart), repr(chart), [[0]], (), chart.rows(), (chart,)]:
            self.assertFalse(chart == value)
            self.assertTrue(chart != value)

    def test_repr(self):
        self.same(repr(Chart([[0, 1]], [CALM_WIND])), "Chart(1 by 2, last hour 1)")
        self.same(repr(Chart([[0], [None], [1]])), "Chart(3 by 1, last hour 0)")
        self.same(repr(largest_chart()), "Chart(6 by 6, last hour 8)")

    def test_len_and_truth(self):
        self.same(len(Chart([[None, 0, None]])), 1)
        self.assertTrue(Chart([[None, 0, None]]))

    def test_largest_chart(self):
        chart = largest_chart()
        self.same([len(chart), chart.last, chart.top, len(chart.places())], [36, 8, 99, 324])
        self.same((8, 5, 5) in chart, True)
        self.same(chart.places()[0], (0, 0, 0))
        self.same(chart.places()[-1], (8, 5, 5))
        steps = steps_of(chart.rows(), chart.winds())
        self.same(sum(len(chart.steps_from(place)) for place in chart.places()), len(steps))
        self.same(chart.steps_to((8, 5, 5)), [((7, 4, 5), 3), ((7, 5, 4), 1), ((7, 5, 5), 2)])
        self.assertEqual(Chart.read(str(chart)), chart)

    def test_smallest_chart(self):
        chart = Chart([[0]], top=1)
        self.same([chart.cells(), chart.places(), chart.neighbours((0, 0))], [[(0, 0)], [(0, 0, 0)], []])
        self.same([chart.steps_from((0, 0, 0)), chart.steps_to((0, 0, 0))], [[], []])
        self.same([chart.text(), str(chart)], ["chart 1\nrow 0\nend\n"] * 2)
        self.same(chart_rows_text([[0]], [], 1), chart.text())
