import random

from highestsky.charts import Chart
from highestsky.errors import InvalidPath, InvalidRegion, UnknownPlace
from highestsky.losses import least_loss, least_path, losses_from, losses_to, path_loss
from tests.helpers import (
    CALM_WIND, RegionCase, any_values, largest_chart, least_losses, random_region, sample_charts, steps_of, wrong_places,
)


def losses_of(chart):
    return least_losses(chart.rows(), chart.winds())


def paths_of(chart):
    """The list of all paths."""
    found = [[place] for place in chart.places()]
    steps = steps_of(chart.rows(), chart.winds())
    for path in found:
        found.extend([*path, end] for start, end in steps if start == path[-1])
    return found


class Losses(RegionCase):
    def test_example(self):
        chart = Chart([[0, 1]], [(0, 5, 2, 5, 3)])
        self.same(losses_from(chart, (0, 0, 0)), {(0, 0, 0): 0, (1, 0, 0): 0, (1, 0, 1): 3})
        self.same(losses_from(chart, (0, 0, 1)), {(0, 0, 1): 0, (1, 0, 0): 3, (1, 0, 1): 1})
        self.same(losses_to(chart, [(1, 0, 0)]), {(0, 0, 0): 0, (0, 0, 1): 3, (1, 0, 0): 0})
        self.same(losses_to(chart, [(1, 0, 1), (1, 0, 0), (1, 0, 1)]),
                  {(0, 0, 0): 0, (0, 0, 1): 1, (1, 0, 0): 0, (1, 0, 1): 0})
        self.same(least_loss(chart, (0, 0, 0), [(1, 0, 1)]), 3)
        self.same(least_path(chart, (0, 0, 0), [(1, 0, 1)]), [(0, 0, 0), (1, 0, 1)])
        self.same(least_loss(chart, (1, 0, 0), [(0, 0, 0)]), None)
        self.same(least_path(chart, (1, 0, 0), [(0, 0, 0)]), None)

    def test_a_detour_with_less_loss(self):
        chart = Chart([[0, 50, 0], [0, 0, 0]], [CALM_WIND] * 4)
        self.same(least_loss(chart, (0, 0, 0), [(2, 0, 2)]), 50)
        self.same(least_loss(chart, (0, 0, 0), [(4, 0, 2)]), 0)
        path = least_path(chart, (0, 0, 0), [(4, 0, 2)])
        self.same(path_loss(chart, path), 0)
        self.same([path[0], path[-1], len(path)], [(0, 0, 0), (4, 0, 2), 5])

    def test_from_places(self):
        for chart in sample_charts():
            losses = losses_of(chart)
            for place in chart.places():
                wanted = {end: loss for (start, end), loss in sorted(losses.items()) if start == place}
                self.same(losses_from(chart, place), wanted)

    def test_to_regions(self):
        maker = random.Random(1)
        for chart in sample_charts():
            losses = losses_of(chart)
            for _ in range(8):
                region = random_region(maker, chart)
                wanted = {}
                for place in chart.places():
                    found = [losses[place, end] for end in region if (place, end) in losses]
                    if found:
                        wanted[place] = min(found)
                    self.same(least_loss(chart, place, region), min(found, default=None))
                self.same(losses_to(chart, region), wanted)
                self.same(losses_to(chart, tuple(region[::-1] + region)), wanted)

    def test_least_paths(self):
        maker = random.Random(2)
        for chart in sample_charts():
            for place in chart.places():
                region = random_region(maker, chart)
                path = least_path(chart, place, region)
                if path is None:
                    self.same(least_loss(chart, place, region), None)
                    continue
                self.assertIsInstance(path, list)
                self.same(path[0], place)
                self.assertIn(path[-1], region)
                self.same(path_loss(chart, path), least_loss(chart, place, region))

    def test_a_place_of_the_region_itself(self):
        for chart in sample_charts():
            for place in chart.places():
                self.same(least_loss(chart, place, [place]), 0)
                self.same(path_loss(chart, least_path(chart, place, [place])), 0)

    def test_by_name(self):
        chart = Chart([[1]], [CALM_WIND])
        self.same(losses_from(chart=chart, place=(0, 0, 0)), {(0, 0, 0): 0, (1, 0, 0): 1})
        self.same(losses_to(region=[(1, 0, 0)], chart=chart), {(0, 0, 0): 1, (1, 0, 0): 0})
        self.same(least_loss(region=[(1, 0, 0)], place=(0, 0, 0), chart=chart), 1)
        self.same(least_path(region=[(1, 0, 0)], place=(0, 0, 0), chart=chart), [(0, 0, 0), (1, 0, 0)])
        self.same(path_loss(path=((0, 0, 0), (1, 0, 0)), chart=chart), 1)

    def test_told_values_are_new(self):
        chart = Chart([[1]], [CALM_WIND])
        for call, argument in [(losses_from, (0, 0, 0)), (losses_to, [(1, 0, 0)])]:
            wanted = call(chart, argument)
            call(chart, argument).clear()
            self.same(call(chart, argument), wanted)
        least_path(chart, (0, 0, 0), [(1, 0, 0)]).clear()
        self.same(least_path(chart, (0, 0, 0), [(1, 0, 0)]), [(0, 0, 0), (1, 0, 0)])

    def test_arguments_are_not_changed(self):
        chart = Chart([[1]], [CALM_WIND])
        region = [(1, 0, 0), (0, 0, 0), (1, 0, 0)]
        losses_to(chart, region)
        least_loss(chart, (0, 0, 0), region)
        least_path(chart, (0, 0, 0), region).append(None)
        self.same(region, [(1, 0, 0), (0, 0, 0), (1, 0, 0)])

    def test_largest_chart(self):
        chart = largest_chart()
        found = losses_from(chart, (0, 0, 0))
        self.same(list(found), sorted(found))
        self.same(found[(0, 0, 0)], 0)
        self.assertNotIn((8, 4, 5), found)
        for end in [(8, 0, 0), (8, 3, 4), (8, 4, 4), (8, 5, 3)]:
            path = least_path(chart, (0, 0, 0), [end])
            self.same(path_loss(chart, path), found[end])
            self.same(losses_to(chart, [end])[(0, 0, 0)], found[end])
        # Each place but those at hour 0 has its loss by the least step that leads to it.
        for place, loss in found.items():
            if place[0] > 0:
                self.same(loss, min(found[start] + more for start, more in chart.steps_to(place) if start in found))


class PathLosses(RegionCase):
    def test_all_paths(self):
        for chart in sample_charts()[:8]:
            steps = steps_of(chart.rows(), chart.winds())
            for path in paths_of(chart)[:400]:
                wanted = sum(steps[start, end] for start, end in zip(path, path[1:]))
                self.same(path_loss(chart, path), wanted)
                self.same(path_loss(chart, tuple(path)), wanted)

    def test_no_list(self):
        chart = Chart([[0]], [CALM_WIND])
        for value in [None, True, 0, 3, "", "abc", [], (), {(0, 0, 0): 1}, chart]:
            self.refused(InvalidPath(-1), path_loss, chart, value)

    def test_wrong_places(self):
        chart = Chart([[0, None, 0]], [CALM_WIND, CALM_WIND])
        for value in wrong_places(chart):
            self.refused(InvalidPath(0), path_loss, chart, [value])
            self.refused(InvalidPath(0), path_loss, chart, (value, (0, 0, 0)))
            self.refused(InvalidPath(2), path_loss, chart, [(0, 0, 0), (1, 0, 0), value, value])
        self.refused(InvalidPath(0), path_loss, chart, (0, 0, 0))

    def test_no_steps(self):
        chart = Chart([[0, 0, 0]], [(0, 0, None, 0, 0), (None, 0, 0, 0, 0)])
        self.same(path_loss(chart, [(0, 0, 1), (1, 0, 0), (2, 0, 1)]), 0)
        wrong = [[(0, 0, 0), (1, 0, 1)], [(0, 0, 0), (0, 0, 0)], [(0, 0, 0), (1, 0, 2)], [(1, 0, 0), (0, 0, 0)],
                 [(0, 0, 0), (2, 0, 0)], [(1, 0, 1), (2, 0, 1)], [(1, 0, 0), (1, 0, 1)]]
        for path in wrong:
            self.refused(InvalidPath(1), path_loss, chart, path)
            self.refused(InvalidPath(1), path_loss, chart, [*path, None])
        self.refused(InvalidPath(2), path_loss, chart, [(0, 0, 2), (1, 0, 1), (2, 0, 1), (2, 0, 1)])
        self.refused(InvalidPath(1), path_loss, chart, [(0, 0, 2), (2, 0, 2), None])

    def test_all_pairs(self):
        for chart in sample_charts():
            steps = steps_of(chart.rows(), chart.winds())
            for start in chart.places():
                for end in chart.places():
                    if (start, end) in steps:
                        self.same(path_loss(chart, [start, end]), steps[start, end])
                    else:
                        self.refused(InvalidPath(1), path_loss, chart, [start, end])


class WrongArguments(RegionCase):
    def test_places(self):
        chart = Chart([[0, None, 0]], [CALM_WIND])
        for value in wrong_places(chart):
            self.refused(UnknownPlace(value), losses_from, chart, value)
            self.refused(UnknownPlace(value), least_loss, chart, value, [(0, 0, 0)])
            self.refused(UnknownPlace(value), least_path, chart, value, [(0, 0, 0)])

    def test_regions(self):
        chart = Chart([[0, None, 0]], [CALM_WIND])
        self.refuses_regions(chart, lambda region: losses_to(chart, region))
        self.refuses_regions(chart, lambda region: least_loss(chart, (0, 0, 0), region))
        self.refuses_regions(chart, lambda region: least_path(chart, (0, 0, 0), region))
        self.same(least_loss(chart, (0, 0, 0), [(1, 0, 0)] * 40), 0)

    def test_places_come_ahead_of_regions(self):
        chart = Chart([[0]])
        for value in any_values():
            self.refused(UnknownPlace(value), least_loss, chart, value, [])
            self.refused(UnknownPlace(value), least_path, chart, value, [value])
        self.refused(InvalidRegion(-1), least_loss, chart, (0, 0, 0), [])
