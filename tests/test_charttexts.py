from highestsky.charts import Chart
from highestsky.charttexts import chart_rows_text, read_parts
from highestsky.errors import InvalidText
from tests.helpers import CALM_WIND, Case, any_values, largest_chart, sample_charts

SMALL = "chart 9\nrow 0 .\nrow 3 99\nwind 0 - 99 5 -\nend\n"
NO_DRAGS = ["-", "100", "00", "01", "-1", "+1", "", "x", "1.0", "..", " ", "1000000000", "0\t"]
NO_TOLLS = [".", "100", "00", "01", "-1", "+1", "", "x", "--", "None"]


class Writing(Case):
    def test_text(self):
        chart = Chart([[0, None], [3, 99]], [(0, None, 99, 5, None)])
        self.same(chart.text(), SMALL)
        self.same(str(chart), SMALL)
        self.same(chart_rows_text([[0, None], [3, 99]], [(0, None, 99, 5, None)], 9), SMALL)
        self.same(chart_rows_text(rows=((0, None), (3, 99)), winds=((0, None, 99, 5, None),), top=9), SMALL)

    def test_text_without_winds(self):
        self.same(chart_rows_text([[None, 1]], (), 99), "chart 99\nrow . 1\nend\n")

    def test_there_and_back(self):
        for chart in [*sample_charts(), largest_chart()]:
            self.assertEqual(Chart.read(chart.text()), chart)
            lines = chart.text().count("\n")
            self.same(read_parts(chart.text()), (chart.rows(), chart.winds(), chart.top, lines))


class Reading(Case):
    def wrong(self, line, why, text):
        """Checks that a text is refused, both as a chart and as the beginning of a text."""
        self.refused(InvalidText(line, why), Chart.read, text)
        self.refused(InvalidText(line, why), read_parts, text)

    def test_by_name(self):
        self.assertEqual(Chart.read(text=SMALL).text(), SMALL)
        self.same(read_parts(text=SMALL), ([[0, None], [3, 99]], [(0, None, 99, 5, None)], 9, 5))

    def test_no_string(self):
        for value in any_values():
            if not isinstance(value, str):
                self.wrong(0, "form", value)
        self.wrong(0, "form", [SMALL])

    def test_texts_that_end_too_early(self):
        lines = SMALL.split("\n")[:-1]
        for many in range(len(lines)):
            text = "".join(line + "\n" for line in lines[:many])
            self.wrong(many, "missing", text)
        self.wrong(0, "missing", "")
        self.wrong(2, "missing", "chart 1\nrow .\n")

    def test_texts_without_their_last_line_feed(self):
        for at in range(1, len(SMALL)):
            text = SMALL[:at]
            if text.endswith("\n"):
                continue
            self.wrong(text.count("\n"), "form", text)

    def test_first_line(self):
        for line in ["chart", "chart ", "chart 0", "chart 100", "chart 09", "chart 9 ", " chart 9", "chart  9",
                     "chart 9 9", "Chart 9", "chart -9", "chart +9", "chart x", "", "row 0", "wind 0 0 0 0 0", "end",
                     "chart .", "chart 1000000000", "chart9", "chart 9."]:
            self.wrong(0, "form", line + "\nrow 0\nend\n")
        for top in [1, 99]:
            self.same(Chart.read(f"chart {top}\nrow 0\nend\n").top, top)

    def test_lines_that_stand_at_a_wrong_place(self):
        self.wrong(1, "form", "chart 9\nend\n")
        self.wrong(1, "form", "chart 9\nwind 0 0 0 0 0\nrow 0\nend\n")
        self.wrong(1, "form", "chart 9\nchart 9\nrow 0\nend\n")
        self.wrong(2, "form", "chart 9\nrow 0\nchart 9\nend\n")
        self.wrong(3, "form", "chart 9\nrow 0\nwind 0 0 0 0 0\nrow 0\nend\n")
        self.wrong(3, "form", "chart 9\nrow 0\nwind 0 0 0 0 0\nchart 9\nend\n")
        self.wrong(1, "form", "chart 9\n\nrow 0\nend\n")

    def test_wrong_words(self):
        for line in ["", " ", "rows 0 0", "Row 0 0", "row", "row ", "row  0 0", " row 0 0", "row 0 0 ", "row 0  0",
                     "wind", "wind ", "end ", " end", "End", "ends", "end 0", "ro", "0", ".", "row0 0"]:
            self.wrong(1, "form", f"chart 9\n{line}\nend\n")
            self.wrong(2, "form", f"chart 9\nrow 0 0\n{line}\nend\n")
            self.wrong(3, "form", f"chart 9\nrow 0 0\nwind 0 0 0 0 0\n{line}\nend\n")

    def test_wrong_items_of_rows(self):
        for item in NO_DRAGS:
            self.wrong(1, "form", f"chart 9\nrow {item}\nend\n")
            self.wrong(1, "form", f"chart 9\nrow 0 {item}\nend\n")
            self.wrong(2, "form", f"chart 9\nrow 0 0\nrow {item} 0\nend\n")

    def test_numbers_of_items_of_rows(self):
        for many in range(1, 7):
            text = "chart 9\nrow" + " 0" * many + "\nend\n"
            self.same(Chart.read(text).rows(), [[0] * many])
        self.wrong(1, "form", "chart 9\nrow" + " 0" * 7 + "\nend\n")
        self.wrong(2, "form", "chart 9\nrow 0\nrow" + " 0" * 7 + "\nend\n")

    def test_wrong_items_of_winds(self):
        for item in NO_TOLLS:
            for at in range(5):
                words = ["0"] * 5
                words[at] = item
                self.wrong(2, "form", f"chart 9\nrow 0\nwind {' '.join(words)}\nend\n")

    def test_numbers_of_items_of_winds(self):
        for many in [0, 1, 4, 6, 9]:
            self.wrong(2, "form", "chart 9\nrow 0\nwind" + " 0" * many + "\nend\n")
            self.wrong(3, "form", "chart 9\nrow 0\nwind 0 0 0 0 0\nwind" + " 0" * many + "\nend\n")

    def test_many_rows(self):
        six = "chart 9\n" + "row 0 .\n" * 6
        self.same(len(Chart.read(six + "end\n").rows()), 6)
        self.wrong(7, "many", six + "row 0 .\nend\n")
        self.wrong(7, "many", six + "row 0 .\n")
        self.wrong(7, "many", six + "row 0\nend\n")
        self.wrong(7, "form", six + "row x\nend\n")
        self.wrong(7, "form", six + "row 0 .")
        self.wrong(7, "form", six + "row" + " 0" * 7 + "\nend\n")
        self.wrong(7, "many", "chart 9\n" + "row .\n" * 7 + "end\n")

    def test_many_winds(self):
        eight = "chart 9\nrow 0\n" + "wind 0 0 0 0 0\n" * 8
        self.same(Chart.read(eight + "end\n").last, 8)
        self.wrong(10, "many", eight + "wind 0 - 0 0 0\nend\n")
        self.wrong(10, "many", eight + "wind 0 - 0 0 0\n")
        self.wrong(10, "form", eight + "wind 0 0 0 0\nend\n")
        self.wrong(10, "form", eight + "wind 0 0 0 0 100\nend\n")
        self.wrong(10, "form", eight + "row 0\nend\n")
        self.wrong(10, "form", eight + "wind 0 0 0 0 0")

    def test_uneven_rows(self):
        self.wrong(2, "uneven", "chart 9\nrow 0 0\nrow 0\nend\n")
        self.wrong(2, "uneven", "chart 9\nrow 0\nrow 0 0\nend\n")
        self.wrong(2, "uneven", "chart 9\nrow 0\nrow . .\n")
        self.wrong(3, "uneven", "chart 9\nrow 0 0\nrow 0 0\nrow 0 0 0\nrow 0\nend\n")
        self.wrong(2, "form", "chart 9\nrow 0 0\nrow -\nend\n")
        self.wrong(2, "form", "chart 9\nrow 0 0\nrow 0")

    def test_no_water(self):
        self.wrong(2, "land", "chart 9\nrow .\nend\n")
        self.wrong(2, "land", "chart 9\nrow .\nwind 0 0 0 0 0\nend\n")
        self.wrong(2, "land", "chart 9\nrow .\nwind 0 0 0 0 0\nwind 0\n")
        self.wrong(4, "land", "chart 9\nrow . .\nrow . .\nrow . .\nend\n")
        self.wrong(7, "land", "chart 9\n" + "row .\n" * 6 + "end\n")
        self.wrong(2, "form", "chart 9\nrow .\nwind 0\nend\n")
        self.wrong(2, "form", "chart 9\nrow .\nend")
        self.wrong(2, "form", "chart 9\nrow .\nends\n")
        self.wrong(2, "form", "chart 9\nrow .\nwind 0 0 0 0 0")
        self.same(Chart.read("chart 9\nrow . .\nrow . 0\nend\n").cells(), [(1, 1)])

    def test_two_wrong_lines(self):
        self.wrong(1, "form", "chart 9\nrow x\nrow y\n")
        self.wrong(0, "form", "chart 0\nrow x\nend\n")
        self.wrong(2, "uneven", "chart 9\nrow 0\nrow 0 0\nwind 0\nend\n")
        self.wrong(2, "form", "chart 9\nrow .\nwind x\nwind 0 0 0 0 0\n")
        self.wrong(2, "uneven", "chart 9\nrow .\nrow . .\nend\n")

    def test_example(self):
        self.wrong(2, "form", "chart 9\nrow 0 1\nwind 0 5 - 5\nend\n")


class BehindTheEnd(Case):
    def test_a_chart_has_nothing_behind(self):
        for behind in ["\n", "x", "end\n", "row 0\n", "\n\n", " ", "wind 0 0 0 0 0\n", SMALL, "x\ny\n"]:
            self.refused(InvalidText(5, "form"), Chart.read, SMALL + behind)

    def test_parts_may_have_anything_behind(self):
        wanted = ([[0, None], [3, 99]], [(0, None, 99, 5, None)], 9, 5)
        for behind in ["", "\n", "x", "end\n", "row 0\n", "\n\n", " ", SMALL, "report x\nend\n"]:
            self.same(read_parts(SMALL + behind), wanted)
        self.same(read_parts("chart 1\nrow 0\nend\nend"), ([[0]], [], 1, 3))

    def test_parts_are_new(self):
        first = read_parts(SMALL)
        first[0][0].clear()
        first[0].clear()
        first[1].clear()
        self.same(read_parts(SMALL), ([[0, None], [3, 99]], [(0, None, 99, 5, None)], 9, 5))

    def test_arguments_are_not_changed(self):
        rows, winds = [[0, None]], [CALM_WIND]
        chart_rows_text(rows, winds, 3)
        self.same([rows, winds], [[[0, None]], [CALM_WIND]])
