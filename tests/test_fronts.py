import random

from highestsky.charts import Chart
from highestsky.errors import Ended, InvalidHeights, InvalidNumber
from highestsky.fronts import Front, front_at, front_walk
from highestsky.skies import Sky
from tests.helpers import CALM_WIND, Case, any_values, heights_of, largest_chart, random_sky, sample_charts


def heights_at(sky, hour):
    return {cell: sky.height((hour, *cell)) for cell in sky.chart.cells()}


def sample_skies():
    maker = random.Random(10)
    return [random_sky(maker, chart) for chart in sample_charts() for _ in range(3)]


def line_sky():
    return Sky(Chart([[0, 1]], [(0, 5, 2, 5, 3)] * 2), [((0, 0, 0), 8), ((1, 0, 1), 6)])


class Fronts(Case):
    def test_all_hours(self):
        for sky in sample_skies():
            front = Front(sky)
            for hour in range(sky.chart.last + 1):
                self.same(front.hour, hour)
                self.same(front.heights(), heights_at(sky, hour))
                self.same(repr(front), f"Front(hour {hour})")
                if hour < sky.chart.last:
                    self.assertIsNone(front.forward())
            for _ in range(2):
                self.refused(Ended(), front.forward)
                self.same([front.hour, front.heights()], [sky.chart.last, heights_at(sky, sky.chart.last)])

    def test_by_name(self):
        self.same(Front(sky=line_sky()).heights(), {(0, 0): 8, (0, 1): 0})

    def test_told_heights_are_new(self):
        front = Front(line_sky())
        front.heights().clear()
        front.heights()[(0, 0)] = 0
        self.same(front.heights(), {(0, 0): 8, (0, 1): 0})
        front.forward()
        self.same(front.heights(), {(0, 0): 8, (0, 1): 6})

    def test_twins(self):
        for sky in sample_skies():
            front = Front(sky)
            while front.hour < sky.chart.last:
                twin = front.twin()
                hour = front.hour
                front.forward()
                self.same([twin.hour, twin.heights()], [hour, heights_at(sky, hour)])
                twin.forward()
                self.same([twin.hour, twin.heights()], [front.hour, front.heights()])
                twin.heights().clear()
                self.same(front.heights(), heights_at(sky, hour + 1))

    def test_a_twin_goes_ahead(self):
        front = Front(line_sky())
        twin = front.twin()
        twin.forward()
        twin.forward()
        self.refused(Ended(), twin.forward)
        self.same([front.hour, front.heights()], [0, {(0, 0): 8, (0, 1): 0}])
        front.forward()
        self.same([front.hour, twin.hour], [1, 2])

    def test_a_twin_of_a_front_with_other_heights(self):
        front = front_at(line_sky(), 1, {(0, 0): 1, (0, 1): 9})
        twin = front.twin()
        front.forward()
        self.same([twin.hour, twin.heights()], [1, {(0, 0): 1, (0, 1): 9}])
        twin.forward()
        self.same(twin.heights(), {(0, 0): 6, (0, 1): 8})
        self.same(front.heights(), twin.heights())

    def test_largest_chart(self):
        sky = Sky(largest_chart(), [((0, 0, 0), 99), ((4, 5, 5), 80)])
        front = Front(sky)
        for hour in range(8):
            front.forward()
        self.same(front.heights(), heights_at(sky, 8))


class SetUpFronts(Case):
    def test_with_the_told_heights(self):
        for sky in sample_skies():
            told = [heights for hour, heights in front_walk(sky)]
            for hour, heights in enumerate(told):
                front = front_at(sky, hour, heights)
                for later in range(hour, sky.chart.last + 1):
                    self.same([front.hour, front.heights()], [later, told[later]])
                    if later < sky.chart.last:
                        front.forward()
                self.refused(Ended(), front.forward)

    def test_with_other_heights(self):
        maker = random.Random(11)
        for sky in sample_skies():
            chart = sky.chart
            for hour in range(chart.last + 1):
                heights = {cell: maker.randint(0, chart.top) for cell in chart.cells()}
                # Squalls of these heights at this hour stand for all that is behind.
                squalls = {place: number for place, number in sky.squalls() if place[0] > hour}
                squalls.update({(hour, *cell): height for cell, height in heights.items()})
                wanted = heights_of(chart, squalls)
                front = front_at(sky, hour, heights)
                for later in range(hour, chart.last + 1):
                    self.same(front.heights(), {cell: wanted[(later, *cell)] for cell in chart.cells()})
                    if later < chart.last:
                        front.forward()

    def test_keys_in_any_order(self):
        front = front_at(line_sky(), 0, {(0, 1): 2, (0, 0): 1})
        self.same(front.heights(), {(0, 0): 1, (0, 1): 2})
        self.same(front_at(heights={(0, 1): 0, (0, 0): 9}, hour=2, sky=line_sky()).hour, 2)

    def test_handed_in_heights_are_changed(self):
        heights = {(0, 1): 2, (0, 0): 1}
        front = front_at(line_sky(), 1, heights)
        self.same(heights, {(0, 1): 2, (0, 0): 1})
        heights[(0, 0)] = 9
        heights.pop((0, 1))
        self.same(front.heights(), {(0, 0): 1, (0, 1): 2})

    def test_wrong_hours(self):
        heights = {(0, 0): 1, (0, 1): 2}
        for hour in [*any_values(), 3, 8, 9, "1", (1,)]:
            if isinstance(hour, bool) or hour != 0:
                self.refused(InvalidNumber(hour), front_at, line_sky(), hour, heights)
                self.refused(InvalidNumber(hour), front_at, line_sky(), hour, None)
        for hour in range(3):
            self.same(front_at(line_sky(), hour, heights).hour, hour)

    def test_wrong_heights(self):
        good = {(0, 0): 9, (0, 1): 0}
        wrong = [*any_values(), {}, {(0, 0): 1}, {(0, 1): 1}, {**good, (0, 2): 1}, {**good, (1, 0): 0}, {**good, 0: 0},
                 {**good, (0, 0, 0): 0}, {(0, 0): 1, (0, 2): 1}, {(0, 0): 1, "01": 1}, {0: 1, 1: 1}, {(0, 0): 1, None: 0},
                 {(0, 0, 0): 1, (0, 0, 1): 1}, {(0, 0): 1, (0, True): 1}, {(0, False): 1, (0, 1): 1},
                 {(False, 0): 1, (0, 1): 1}, [((0, 0), 1), ((0, 1), 2)], (((0, 0), 1), ((0, 1), 2)), list(good)]
        wrong += [{**good, (0, 1): height} for height in [-1, 10, 99, True, False, None, "1", (1,), [1], 10 ** 9]]
        for value in wrong:
            for hour in range(3):
                self.refused(InvalidHeights(), front_at, line_sky(), hour, value)
        self.same(front_at(line_sky(), 0, good).heights(), good)

    def test_heights_go_up_to_the_top(self):
        sky = Sky(Chart([[0]], [CALM_WIND], top=3))
        self.same(front_at(sky, 1, {(0, 0): 3}).heights(), {(0, 0): 3})
        self.refused(InvalidHeights(), front_at, sky, 1, {(0, 0): 4})


class Walks(Case):
    def test_all_hours(self):
        for sky in sample_skies():
            wanted = [(hour, heights_at(sky, hour)) for hour in range(sky.chart.last + 1)]
            self.same(list(front_walk(sky)), wanted)
        self.same(list(front_walk(sky=Sky(Chart([[4]])))), [(0, {(0, 0): 0})])

    def test_told_heights_are_changed_on_the_way(self):
        found = []
        for hour, heights in front_walk(line_sky()):
            found.append((hour, dict(heights)))
            heights.clear()
        self.same(found, list(front_walk(line_sky())))

    def test_two_walks_beside_each_other(self):
        sky = line_sky()
        one, other = front_walk(sky), front_walk(sky)
        next(one)
        self.same(next(one), (1, heights_at(sky, 1)))
        self.same(next(other), (0, heights_at(sky, 0)))
        self.same([len(list(one)), len(list(other))], [1, 2])
