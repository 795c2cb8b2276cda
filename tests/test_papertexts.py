"""The texts of papers of both kinds, and each wrong line at each place where it can stand."""

from highestsky.charts import Chart
from highestsky.errors import InvalidText
from highestsky.lots import Lot
from highestsky.papers import is_paper
from highestsky.papertexts import paper_text, read_paper
from highestsky.sayings import at_least, at_most, squall_most, under
from highestsky.skies import Sky
from tests.helpers import Case, any_values
from tests.worlds import lots

CHART = Chart([[0, None, 1]], [(0, 5, 2, 5, 3)], top=12)
SKY = ["sky\n", "squall 4 0.0.0\n", "squall 12 0.0.2\n", "squall 1 1.0.0\n", "end\n"]
NONE = ["none\n", "lower 0 atmost 0 0.0.0\n", "lower 9999 by a under -3 0.0.0+0.0.2 1.0.0\n",
        "lower 12 ifthen 1 0.0.0 100 1.0.2\n",
        "lower 3 squallmost 2 1.0.2\n", "broken by abc atleast 100 0.0.0\n", "end\n"]
NO_LINES = ["", " ", "x", "END", "end ", " end", "end end", "sky", "none", "sky ", "squall", "lower", "broken",
            "chart 9", "row 0", "squall 4 ",
            "lower 4 ", "broken "]
WRONG_SQUALLS = ["squall 0 0.0.0", "squall 100 0.0.0", "squall 04 0.0.0", "squall +4 0.0.0", "squall -4 0.0.0",
                 "squall 4  0.0.0",
                 "squall  4 0.0.0", " squall 4 0.0.0", "squall 4 0.0.0 ", "squall 4 0.0", "squall 4 0.0.0.0",
                 "squall 4 00.0.0",
                 "squall 4 0.0.0+0.0.2", "squall 4", "squall 4 0.0.0 0.0.2", "squall 0.0.0 4", "squall a 0.0.0",
                 "Squall 4 0.0.0",
                 "squall 4 9.0.0", "squall 4 0.6.0", "squall 4 (0, 0, 0)", "squall 1000000000 0.0.0",
                 "squall 4\t0.0.0", "squalls 4 0.0.0"]
WRONG_LOWERS = ["lower atmost 4 0.0.0", "lower 4", "lower 4 5", "lower 04 atmost 4 0.0.0", "lower +4 atmost 4 0.0.0",
                "lower -4 atmost 4 0.0.0",
                "lower 10000 atmost 4 0.0.0", "lower 00001 atmost 4 0.0.0", "lower 999999999 atmost 4 0.0.0",
                "lower 4  atmost 4 0.0.0",
                "lower  4 atmost 4 0.0.0", " lower 4 atmost 4 0.0.0", "lower 4 atmost 4 0.0.0 ",
                "lower 4 atleast 4 0.0.0",
                "lower 4 squallleast 4 0.0.0", "lower 4 exactly 4 0.0.0", "lower 4 level 4 0.0.0 0.0.2",
                "lower 4 atmost 100 0.0.0",
                "lower 4 by A atmost 4 0.0.0", "lower 4 atmost 4 0.0.2+0.0.0", "lower 4 squallmost 4 0.0.0+0.0.2",
                "lower a atmost 4 0.0.0",
                "Lower 4 atmost 4 0.0.0", "lower 4 lower 4 atmost 4 0.0.0", "lower 4 atmost -1 0.0.0",
                "lower 4 broken atmost 4 0.0.0",
                "broken lower 4 atmost 4 0.0.0", "broken 4 atmost 4 0.0.0", "lowers 4 atmost 4 0.0.0"]
WRONG_ENDS = ["broken", "broken exactly 4 0.0.0", "broken level 4 0.0.0 0.0.2", "broken  atleast 4 0.0.0",
              "broken atleast 0 0.0.0",
              "broken atleast 4 0.0.0 ", " broken atleast 4 0.0.0", "broken atleast 04 0.0.0",
              "broken by A atleast 4 0.0.0",
              "Broken atleast 4 0.0.0", "broken atleast 4 0.0.2+0.0.0", "broken broken atleast 4 0.0.0",
              "breaks atleast 4 0.0.0"]


class PaperTextCase(Case):
    def wrong(self, line, why, text):
        self.refused(InvalidText(line, why), read_paper, CHART, text)

    def same_paper(self, found, wanted):
        self.same([type(found), found[0]], [tuple, wanted[0]])
        if wanted[0] == "sky":
            self.same([len(found), found[1].chart == wanted[1].chart, found[1].squalls()],
                      [2, True, wanted[1].squalls()])
        else:
            self.same([len(found), type(found[1]), [type(line) for line in found[1]]],
                      [3, tuple, [tuple] * len(wanted[1])])
            self.same([(ceiling.text(), limit) for ceiling, limit in found[1]],
                      [(ceiling.text(), limit) for ceiling, limit in wanted[1]])
            self.same([found[2].text(), found[2] == wanted[2]], [wanted[2].text(), True])


class ThereAndBack(PaperTextCase):
    def test_texts(self):
        squalls = [((0, 0, 0), 4), ((0, 0, 2), 12), ((1, 0, 0), 1)]
        sky = Sky(CHART, [*squalls[::-1], ((1, 0, 2), 0)])
        self.same(paper_text(("sky", sky)), "".join(SKY))
        self.same_paper(read_paper(CHART, "".join(SKY)), ("sky", sky))
        lot = Lot(Chart([[0, 1]], [(0, 5, 2, 5, 3)]), [at_most([(1, 0, 0)], 4, gauge="a"), squall_most((1, 0, 1), 0),
                                                       at_least([(1, 0, 1)], 7)])
        self.same(paper_text(paper=lot.paper()),
                  "none\nlower 4 by a atmost 4 1.0.0\nlower 0 squallmost 0 1.0.1\nbroken atleast 7 1.0.1\nend\n")
        found = read_paper(chart=lot.chart, text=paper_text(lot.paper()))
        self.same_paper(found, lot.paper())
        self.same(is_paper(lot, found), True)

    def test_any_texts(self):
        self.same([paper_text(read_paper(CHART, "".join(lines))) for lines in [SKY, NONE]],
                  ["".join(SKY), "".join(NONE)])
        for text in ["sky\nend\n", "none\nbroken atleast 1 0.0.0\nend\n", "none\nbroken atmost 1 0.0.0\nend\n",
                     "none\nbroken ifthen 1 0.0.0 1 0.0.0\nend\n",
                     "none\nlower 5 atmost 4 0.0.0\nlower 5 atmost 4 0.0.0\nbroken under 0 0.0.0 0.0.0\nend\n",
                     "sky\nsquall 12 0.0.0\nsquall 12 0.0.2\nsquall 12 1.0.0\nsquall 12 1.0.2\nend\n"]:
            self.same(paper_text(read_paper(CHART, text)), text)

    def test_no_squall(self):
        self.same(paper_text(("sky", Sky(CHART))), "sky\nend\n")
        self.same_paper(read_paper(CHART, "sky\nend\n"), ("sky", Sky(CHART)))

    def test_lists_of_lines(self):
        line, end = (at_most([(0, 0, 0)], 4), 9999), at_least([(0, 0, 0)], 1)
        self.same(paper_text(("none", [line, line], end)), paper_text(("none", (line, line), end)))
        self.same(paper_text(("none", [line], end)), "none\nlower 9999 atmost 4 0.0.0\nbroken atleast 1 0.0.0\nend\n")
        self.same_paper(read_paper(CHART, paper_text(("none", [line], end))), ("none", (line,), end))

    def test_papers_of_lots(self):
        for _, world, lot in lots(50, 30, most=6):
            text = paper_text(lot.paper())
            found = read_paper(world.chart, text)
            self.same_paper(found, lot.paper())
            self.same([paper_text(found), is_paper(lot, found)], [text, True])

    def test_papers_that_are_wrong_for_lots(self):
        found = read_paper(CHART, "".join(NONE))
        self.same(is_paper(Lot(CHART), found), False)
        self.same(is_paper(Lot(CHART), read_paper(CHART, "".join(SKY))), True)

    def test_many_lines(self):
        cells = [[(0, 0, column)] for column in range(6)]
        lot = Lot(Chart([[0] * 6], top=99), [under(cells[at], cells[at - 1], 0 if at else -1) for at in range(6)])
        text = paper_text(lot.paper())
        self.same(text.count("\n"), len(lot.lines()) + 3)
        self.assertGreater(len(text), 12000)
        self.same_paper(read_paper(lot.chart, text), lot.paper())


class Refused(PaperTextCase):
    def test_form_at_each_line(self):
        for lines, wrong in [(SKY, WRONG_SQUALLS + NO_LINES), (NONE, WRONG_LOWERS + WRONG_ENDS + NO_LINES)]:
            for at in range(len(lines) + 1):
                for line in wrong:
                    if at == 0 and line in ("sky", "none"):
                        continue
                    # In place of a line, with the lines behind it or none, and ahead of it.
                    for text in [[*lines[:at], line + "\n", *lines[at + 1:]], [*lines[:at], line + "\n", *lines[at:]],
                                 [*lines[:at], line + "\n"], [*lines[:at], line + "\n", "x"]]:
                        self.wrong(at, "form", "".join(text))
                    if line:
                        self.wrong(at, "form", "".join([*lines[:at], line]))

    def test_lines_of_the_other_kind(self):
        for at in range(1, len(SKY) + 1):
            for line in NONE[:-1]:
                self.wrong(at, "form", "".join([*SKY[:at], line, *SKY[at:]]))
        for at in range(1, len(NONE) + 1):
            for line in SKY[:-1]:
                self.wrong(at, "form", "".join([*NONE[:at], line, *NONE[at:]]))

    def test_first_lines(self):
        for line in [*SKY[1:], *NONE[1:], "sky none\n", "chart 9\n", "Sky\n", "sky \n", " sky\n", "none \n", "\n",
                     "sky\t\n"]:
            self.wrong(0, "form", line)
            self.wrong(0, "form", line + "".join(SKY))

    def test_lines_without_their_line_feed(self):
        for lines in [SKY, NONE]:
            for at, line in enumerate(lines):
                self.wrong(at, "form", "".join([*lines[:at], line[:-1]]))
                self.wrong(at, "form", "".join([*lines[:at], line[0]]))
        self.wrong(0, "form", "x")
        self.wrong(0, "form", " ")

    def test_order_of_lines(self):
        for at in range(1, 5):
            # Neither end nor a line of the log stands behind, or ahead of, the line of the end.
            self.wrong(at, "form", "".join([*NONE[:at], "end\n"]))
        self.wrong(6, "form", "".join([*NONE[:6], NONE[1], "end\n"]))
        self.wrong(6, "form", "".join([*NONE[:6], NONE[5], "end\n"]))
        self.wrong(1, "form", "none\nend\n")

    def test_behind_the_end(self):
        for lines in [SKY, NONE]:
            for line in ["\n", "end\n", "x", "x\n", " ", *lines]:
                self.wrong(len(lines), "form", "".join([*lines, line]))
            self.wrong(len(lines), "form", "".join([*lines, *lines]))

    def test_missing(self):
        self.wrong(0, "missing", "")
        for lines in [SKY, NONE]:
            for at in range(len(lines)):
                self.wrong(at, "missing", "".join(lines[:at]))

    def test_chart(self):
        for at in range(1, 5):
            for line in ["squall 4 0.0.1\n", "squall 13 0.0.0\n", "squall 99 8.5.5\n", "squall 4 2.0.0\n",
                         "squall 13 0.0.1\n"]:
                self.wrong(at, "chart", "".join([*SKY[:at], line, *SKY[at:]]))
                self.wrong(at, "chart", "".join([*SKY[:at], line]))
        for at in range(1, 6):
            for line in ["lower 4 atmost 4 0.0.1\n", "lower 4 under 4 0.0.0 0.0.0+0.0.1\n",
                         "lower 4 squallmost 4 2.0.0\n",
                         "lower 4 by a ifthen 1 0.0.0 1 0.1.0\n", "broken atleast 4 0.0.1\n",
                         "broken squallleast 4 8.5.5\n",
                         "broken under -3 0.0.0 0.0.1\n", "broken by a atmost 4 0.0.1\n"]:
                self.wrong(at, "chart", "".join([*NONE[:at], line, *NONE[at:]]))
                self.wrong(at, "chart", "".join([*NONE[:at], line]))

    def test_order(self):
        places = ["0.0.0", "0.0.2", "1.0.0", "1.0.2"]
        for first in range(4):
            for second in range(first + 1):
                text = f"sky\nsquall 4 {places[first]}\nsquall 5 {places[second]}\n"
                self.wrong(2, "order", text + "end\n")
                self.wrong(2, "order", text)
                self.wrong(2, "order", text + "x\n")
        self.wrong(4, "order", "".join([*SKY[:4], "squall 4 0.0.2\n", "end\n"]))

    def test_several_wrong_things_in_one_line(self):
        # The squall is too great and the place is off the chart, or not behind the one ahead; the form comes first.
        self.wrong(2, "chart", "sky\nsquall 4 1.0.0\nsquall 4 0.0.1\nend\n")
        self.wrong(2, "chart", "sky\nsquall 4 1.0.0\nsquall 13 0.0.0\nend\n")
        self.wrong(2, "chart", "sky\nsquall 4 1.0.0\nsquall 13 1.0.0\nend\n")
        self.wrong(2, "form", "sky\nsquall 4 1.0.0\nsquall 100 0.0.1\nend\n")
        self.wrong(2, "form", "sky\nsquall 4 1.0.0\nsquall 04 0.0.0\nend\n")
        self.wrong(2, "form", "sky\nsquall 4 1.0.0\nsquall 13 0.0.1")
        self.wrong(1, "form", "none\nlower 10000 atmost 4 0.0.1\n")
        self.wrong(1, "form", "none\nlower 4 exactly 4 0.0.1\n")
        self.wrong(1, "form", "none\nbroken level 4 0.0.1 0.0.0\n")
        self.wrong(1, "form", "none\nlower 4 atmost 4 0.0.1")

    def test_several_wrong_lines(self):
        self.wrong(1, "chart", "sky\nsquall 4 0.0.1\nx\n")
        self.wrong(2, "order", "sky\nsquall 4 0.0.2\nsquall 4 0.0.0\nsquall 4 0.0.1\n")
        self.wrong(1, "chart", "none\nlower 4 atmost 4 0.0.1\nend\n")
        self.wrong(1, "form", "none\nlower 4 atmost 4\nbroken atleast 4 0.0.1\n")
        self.wrong(1, "chart", "sky\nsquall 13 0.0.0\nsquall 4 0.0.0\nend\nend\n")
        self.wrong(0, "form", "skies\nsquall 13 0.0.0\n")

    def test_the_chart_counts(self):
        text = "sky\nsquall 4 0.0.0\nend\n"
        self.refused(InvalidText(1, "chart"), read_paper, Chart([[0]], top=3), text)
        self.refused(InvalidText(1, "chart"), read_paper, Chart([[None, 0]]), text)
        self.same(read_paper(Chart([[0]], top=4), text)[1].squalls(), [((0, 0, 0), 4)])

    def test_no_string(self):
        for value in [value for value in any_values() if not isinstance(value, str)] + [SKY, ("sky\nend\n",),
                                                                                        ("sky", Sky(CHART)), CHART]:
            self.wrong(0, "form", value)
