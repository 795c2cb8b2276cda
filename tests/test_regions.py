from highestsky.charts import Chart
from highestsky.errors import InvalidRegion
from highestsky.regions import check_places, check_region, kept_region
from tests.helpers import CALM_WIND, NO_REGIONS, Case, RegionCase, any_values


class WrongRegions(RegionCase):
    def test_regions_of_a_chart(self):
        chart = Chart([[0, None, 0]], [CALM_WIND])
        self.refuses_regions(chart, lambda value: check_region(chart, value))
        for region in [[(0, 0, 0)], [(1, 0, 2)] * 40, ((1, 0, 0), (0, 0, 2), (1, 0, 0))]:
            self.assertIsNone(check_region(chart, region))

    def test_regions_of_no_chart(self):
        for value in NO_REGIONS:
            self.refused(InvalidRegion(-1), check_places, value)
        for value in any_values():
            self.refused(InvalidRegion(1), check_places, [(8, 5, 5), value, value])
        self.assertIsNone(check_places([(8, 5, 5)] * 40))


class KeptRegions(Case):
    def test_kept(self):
        self.same(kept_region([(1, 0, 0), (0, 2, 1), (1, 0, 0)]), ((0, 2, 1), (1, 0, 0)))
        self.same(kept_region(((0, 1, 0), (0, 0, 5))), ((0, 0, 5), (0, 1, 0)))
