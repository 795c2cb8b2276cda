"""The examples at the end of the document, as far as they need what there is."""

from highestsky.charts import Chart
from highestsky.errors import InvalidChart, InvalidText
from tests.helpers import Case


class Examples(Case):
    def test_a_text_with_a_wrong_line(self):
        self.refused(InvalidText(line=2, why="form"), Chart.read, "chart 9\nrow 0 1\nwind 0 5 - 5\nend\n")

    def test_no_water(self):
        self.refused(InvalidChart(row=-1, column=-1), Chart, [[None]])

    def test_charts_of_the_other_examples(self):
        chart = Chart([[0, 1]], [(0, 5, 2, 5, 3)])
        self.same([chart.top, chart.last, chart.cells()], [9, 1, [(0, 0), (0, 1)]])
        chart = Chart([[0]], top=5)
        self.same([chart.top, chart.last, chart.cells()], [5, 0, [(0, 0)]])
        chart = Chart([[9, 9]], [(0, 0, 0, 0, 0), (0, 0, 0, 0, 0)], top=9)
        self.same([chart.top, chart.last, chart.cells()], [9, 2, [(0, 0), (0, 1)]])
