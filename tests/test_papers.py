"""Papers of both kinds: right ones, ones that are wrong in one thing, and short ones."""

from highestsky.charts import Chart
from highestsky.errors import InvalidPaper
from highestsky.logs import followed_log
from highestsky.lots import Lot
from highestsky.lowering import limit_at
from highestsky.papers import is_paper, is_short, short_paper
from highestsky.sayings import at_least, at_most, exactly, if_then, level, squall_least, squall_most, under
from highestsky.skies import Sky
from tests.helpers import Case, any_values, largest_chart
from tests.test_logs import followed
from tests.worlds import FLOORS, cases, lots, state

CHART = Chart([[0, 1]], [(0, 5, 2, 5, 3)])
A, B, C, D = [(0, 0, 0)], [(0, 0, 1)], [(1, 0, 0)], [(1, 0, 1)]
LOW, CALM, FIVE = at_most(C, 4), squall_most(D[0], 0), at_least(D, 5)


def example():
    """A lot that can be."""
    return Lot(CHART, [LOW, CALM, FIVE])


def hindered():
    """A lot with a highest sky that does not keep the third saying."""
    return Lot(CHART, [LOW, CALM, FIVE, at_most(B, 5)])


def is_right(lot, paper):
    """Whether a paper of one of both forms is right by the words of [22]."""
    if paper[0] == "sky":
        return all(saying.kept_by(paper[1]) for saying in lot.sayings())
    if followed(lot, paper[1])[1] is not None or not [part for part in lot.parts() if part == paper[2]]:
        return False
    bounds = followed_log(lot, paper[1])
    if paper[2].kind in FLOORS:
        return not paper[2].kept_by(bounds)
    return paper[2].kind == "under" and limit_at(bounds, paper[2]) < 0


def without(paper, at):
    return (paper[0], (*paper[1][:at], *paper[1][at + 1:]), paper[2])


class PaperCase(Case):
    def check(self, lot, paper):
        """Compares with the words whether a paper is right, and whether it is short; tells whether it is right."""
        before = state(lot)
        wanted = is_right(lot, paper)
        self.same(is_paper(lot, paper), wanted)
        if paper[0] == "none" and wanted:
            self.same(is_short(lot, paper), not [at for at in range(len(paper[1])) if is_right(lot,
                                                                                               without(paper, at))])
        else:
            self.same(is_short(lot, paper), False)
            self.refused(InvalidPaper(), short_paper, lot, paper)
        self.same(state(lot), before)
        return wanted

    def check_short(self, lot, paper):
        """Checks the short paper of a right one."""
        short = short_paper(lot, paper)
        self.same([type(short), len(short), short[0], type(short[1]), short[2] == paper[2]],
                  [tuple, 3, "none", tuple, True])
        self.same([self.check(lot, short), is_short(lot, short)], [True, True])
        lines = iter([(ceiling.text(), limit) for ceiling, limit in paper[1]])
        # Some of the lines, in their order.
        self.assertTrue(all((ceiling.text(), limit) in lines for ceiling, limit in short[1]))
        self.same(short_paper(lot=lot, paper=paper) == short, True)
        return short


class ToldPapers(PaperCase):
    def test_kinds(self):
        for _, world, lot in lots(40, 40, most=6):
            paper = lot.paper()
            self.same([type(paper), paper[0], len(paper)], [tuple, "sky", 2] if lot.can_be else [tuple, "none", 3])
            self.assertTrue(self.check(lot, paper))
            if lot.can_be:
                self.same(paper[1] == lot.sky, True)
            else:
                self.same(type(paper[1]), tuple)
                self.check_short(lot, paper)

    def test_behind_each_change(self):
        for maker, world, lot in lots(41, 8):
            for _ in range(3):
                if len(lot) and maker.random() < 0.5:
                    lot.take_back(maker.randrange(len(lot)))
                else:
                    lot.put(world.saying(maker))
                self.assertTrue(self.check(lot, lot.paper()))

    def test_all_skies(self):
        for maker, world, sayings in cases(42, 5, most=3):
            lot = Lot(world.chart, sayings)
            found = world.skies_of(sayings)
            for at in maker.choices(world.all, k=10):
                self.same(is_paper(lot, ("sky", world.sky(at))), at in found)

    def test_never_both(self):
        for maker, world, lot in lots(43, 20):
            ends = lot.parts()
            papers = [("none", lot.lines(), end) for end in ends] + [("none", (), end) for end in ends]
            self.same(any(is_paper(lot, paper) for paper in papers) and lot.can_be, False)
            for paper in papers:
                self.check(lot, paper)


class FirstKind(PaperCase):
    def test_skies(self):
        lot = example()
        for squalls in [[(A[0], 4), (B[0], 7), (C[0], 4)], [(B[0], 6)]]:
            self.same(is_paper(lot, ("sky", Sky(CHART, squalls))), True)
        for squalls in [[], [(B[0], 5)], [(B[0], 8)], [(B[0], 6), (D[0], 1)]]:
            self.same(is_paper(lot, ("sky", Sky(CHART, squalls))), False)
        self.same(is_paper(lot=lot, value=("sky", lot.sky)), True)
        self.same([is_paper(Lot(CHART), ("sky", Sky(CHART))), is_paper(hindered(), ("sky", hindered().sky))],
                  [True, False])

    def test_other_charts(self):
        for chart in [Chart([[0, 1]], [(0, 5, 2, 5, 3)], top=8), Chart([[0, 1]]), Chart([[0]])]:
            self.same(is_paper(Lot(CHART), ("sky", Sky(chart))), False)
        self.same(is_paper(Lot(CHART), ("sky", Sky(Chart(CHART.rows(), CHART.winds())))), True)

    def test_other_forms(self):
        lot = example()
        sky = lot.sky
        for value in [["sky", sky], ("sky",), ("sky", sky, sky), ("sky", [sky]), ("sky", None), ("Sky", sky),
                      ("none", sky), (sky, "sky"),
                      ("sky", sky.squalls()), (("sky", sky),), sky, "sky", ("sky", lot), ("", sky), (sky, sky),
                      ("sky", "sky"), ("sky", CHART)]:
            self.same([is_paper(lot, value), is_short(lot, value)], [False, False])
            self.refused(InvalidPaper(), short_paper, lot, value)
        self.same(is_short(lot, ("sky", sky)), False)
        self.refused(InvalidPaper(), short_paper, lot, ("sky", sky))


class SecondKind(PaperCase):
    def test_an_example(self):
        lot = hindered()
        lines = [(LOW, 4), (CALM, 0), (at_most(B, 5), 5)]
        for paper in [("none", lines, FIVE), ("none", tuple(lines), FIVE), ("none", lines[::-1], FIVE),
                      ("none", [*lines, *lines], FIVE)]:
            self.same([self.check(lot, paper), is_paper(lot, paper)], [True, True])
        self.same([is_short(lot, ("none", lines, FIVE)), is_short(lot=lot, paper=("none", [*lines, lines[0]], FIVE))],
                  [True, False])

    def test_one_wrong_thing(self):
        lot = hindered()
        lines = ((LOW, 4), (CALM, 0), (at_most(B, 5), 5))
        for paper in [("none", lines[1:], FIVE), ("none", lines[:2], FIVE), ("none", (lines[0], lines[2]), FIVE),
                      ("none", (), FIVE),
                      ("none", ((LOW, 3), *lines[1:]), FIVE), ("none", ((LOW, 8), *lines[1:]), FIVE),
                      ("none", ((at_most(C, 3), 3), *lines[1:]), FIVE),
                      ("none", ((LOW.with_gauge("a"), 4), *lines[1:]), FIVE),
                      ("none", ((LOW, True), *lines[1:]), FIVE), ("none", ([LOW, 4], *lines[1:]), FIVE),
                      ("none", lines, at_least(D, 6)), ("none", lines, LOW), ("none", lines, CALM),
                      ("none", lines, at_most(B, 5)),
                      ("none", lines, FIVE.with_gauge("a"))]:
            self.same(self.check(lot, paper), False)
        for value in [["none", lines, FIVE], ("none", lines), ("none", lines, FIVE, FIVE), ("sky", lines, FIVE),
                      ("None", lines, FIVE),
                      ("none", FIVE, lines), ("none", None, FIVE), ("none", lines, None), ("none", lines, 5),
                      ("none", lines, [FIVE]),
                      ("none", lines, FIVE.text()), (None, lines, FIVE), ("none", "", FIVE), ("none", {}, FIVE),
                      (lines, FIVE),
                      ("none", [None], FIVE), ("none", (lines,), FIVE), ("none", lines[0], FIVE), lines, FIVE, lot,
                      ("none", (FIVE, 5), FIVE),
                      ("none", [(FIVE, 5), *lines], FIVE)]:
            self.same([is_paper(lot, value), is_short(lot, value)], [False, False])
            self.refused(InvalidPaper(), short_paper, lot, value)

    def test_any_values(self):
        lot = hindered()
        for value in any_values():
            for paper in [value, (value,), ("sky", value), ("none", value, FIVE), ("none", [value], FIVE),
                          ("none", lot.lines(), value),
                          (value, lot.lines(), FIVE), (value, lot.sky), [value], ("none", value, value),
                          (value, value, value)]:
                self.same([is_paper(lot, paper), is_short(lot, paper)], [False, False])
                self.refused(InvalidPaper(), short_paper, lot, paper)

    def test_ends(self):
        # A floor that is never kept needs no line; neither does an under that is never kept.
        lot = Lot(CHART, [at_least(A, 10), squall_least(A[0], 10), under(A, A, -10), under(A, A, -9),
                          if_then(A, 1, A, 50)])
        for end, right in [(at_least(A, 10), True), (squall_least(A[0], 10), True), (under(A, A, -10), True),
                           (under(A, A, -9), False),
                           (if_then(A, 1, A, 50), False)]:
            self.same(self.check(lot, ("none", [], end)), right)
        self.same(self.check(lot, ("none", [(under(A, A, -9), 0)], under(A, A, -9))), True)
        # An ifthen with a limit is broken here, but a sky can keep it.
        self.same(self.check(lot, ("none", [(under(A, A, -9), 0)], if_then(A, 1, A, 50))), False)

    def test_parts_are_ends(self):
        lot = Lot(CHART, [exactly(A, 5, gauge="b"), at_most(A, 3), level(B, A, -3), at_most(C, 1)])
        self.same(self.check(lot, ("none", [(at_most(A, 3), 3)], at_least(A, 5, gauge="b"))), True)
        self.same(self.check(lot, ("none", [(at_most(A, 3), 3)], at_least(A, 5))), False)
        self.same(self.check(lot, ("none", [(at_most(A, 3), 3)], exactly(A, 5, gauge="b"))), False)
        self.same(self.check(lot, ("none", [(at_most(C, 1), 1)], under(B, A, -3))), True)
        self.same(self.check(lot, ("none", [(at_most(C, 1), 1)], level(B, A, -3))), False)

    def test_changed_papers(self):
        found = []
        for maker, world, lot in lots(44, 40, most=6):
            if lot.can_be:
                continue
            word, lines, end = lot.paper()
            for part in maker.sample(lot.parts(), min(4, len(lot.parts()))):
                found.append(self.check(lot, (word, lines, part)))
                found.append(self.check(lot, (word, [*lines, (part, world.chart.top)], end)))
            for at, (ceiling, limit) in enumerate(lines):
                found.append(self.check(lot, without((word, lines, end), at)))
                for number in [limit - 1, limit + 1]:
                    found.append(self.check(lot, (word, [*lines[:at], (ceiling, number), *lines[at + 1:]], end)))
            found.append(self.check(lot, (word, list(lines[::-1]), end)))
        self.assertGreater(min(found.count(True), found.count(False)), 100)


class Short(PaperCase):
    def test_lines_that_are_left_out(self):
        lot = hindered()
        lot.put(at_most(A, 8), at_most(A, 9, gauge="a"), if_then(A, 1, B, 9))
        short = self.check_short(lot, ("none", [(at_most(A, 8), 8), (at_most(A, 8), 99), *hindered().lines(),
                                                (LOW, 4)], FIVE))
        self.same(sorted((ceiling.text(), limit) for ceiling, limit in short[1]),
                  [("atmost 4 1.0.0", 4), ("atmost 5 0.0.1", 5), ("squallmost 0 1.0.1", 0)])

    def test_a_line_that_only_together_can_be_left_out(self):
        # The first line alone is needed by the second one, which is of no use.
        lot = Lot(CHART, [at_most(A, 3), under(B, A, 0), at_least(D, 10)])
        lines = [(at_most(A, 3), 3), (under(B, A, 0), 3)]
        self.same(self.check_short(lot, ("none", lines, at_least(D, 10)))[1], ())
        self.same(is_short(lot, ("none", lines, at_least(D, 10))), False)

    def test_weaker_lines(self):
        lot = Lot(CHART, [at_most(A, 3), under(B, A, 0), at_least(B, 7)])
        for lines in [[(at_most(A, 3), 3), (under(B, A, 0), 3)], [(at_most(A, 3), 6), (under(B, A, 0), 6)],
                      [(at_most(A, 3), 3), (under(B, A, 0), 6)]]:
            self.same(self.check_short(lot, ("none", lines, at_least(B, 7)))[1] == tuple(lines), True)
        lines = [(at_most(A, 3), 6), (at_most(A, 3), 3), (under(B, A, 0), 6)]
        self.same(len(self.check_short(lot, ("none", lines, at_least(B, 7)))[1]), 2)

    def test_doubled_and_weakened_papers(self):
        for maker, world, lot in lots(45, 30, most=6):
            if not lot.can_be:
                word, lines, end = lot.paper()
                doubled = [line for line in lines for _ in range(2)]
                more = [(ceiling, limit + 1) for ceiling, limit in lines]
                for paper in [(word, doubled, end), (word, [*lines, *lines], end), (word, [*more, *lines], end)]:
                    if self.check(lot, paper):
                        self.check_short(lot, paper)

    def test_a_long_paper(self):
        lot = Lot(Chart([[0]], top=99), [under(A, A, -1), at_most(A, 50)])
        paper = lot.paper()
        self.same([len(paper[1]), is_paper(lot, paper), is_short(lot, paper)], [99, True, True])
        longer = ("none", [(at_most(A, 50), 50), *paper[1]], paper[2])
        short = short_paper(lot, longer)
        self.same([is_paper(lot, longer), is_short(lot, longer), is_paper(lot, short), is_short(lot, short)],
                  [True, False, True, True])
        self.same([limit for _, limit in short[1]], list(range(50, -1, -1)))

    def test_very_long_papers(self):
        chart = largest_chart()
        cells = [[(0, row, column)] for row in range(5) for column in range(6)]
        lot = Lot(chart, [under(cells[at], cells[at - 1], 0 if at else -1) for at in range(30)])
        paper = lot.paper()
        self.same([lot.can_be, len(paper[1]) > 2000, is_paper(lot, paper), is_short(lot, short_paper(lot, paper))],
                  [False, True, True, True])
