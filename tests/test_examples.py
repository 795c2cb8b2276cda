"""The examples at the end of the document."""

from highestsky.causes import choices, possible_causes
from highestsky.charts import Chart
from highestsky.cores import core
from highestsky.doubts import Doubt
from highestsky.errors import InvalidChart, InvalidText
from highestsky.forecasts import height_span, possible_heights, skipped_heights
from highestsky.hedges import blind_promise, informed_promise, seeing_promise
from highestsky.losses import least_loss
from highestsky.lots import Lot
from highestsky.office import Office
from highestsky.sayings import at_least, at_most, if_then, squall_most, under
from highestsky.skies import Sky
from highestsky.trips import Trip
from highestsky.verdicts import verdict
from tests.helpers import Case


class Examples(Case):
    def test_a_text_with_a_wrong_line(self):
        self.refused(InvalidText(line=2, why="form"), Chart.read, "chart 9\nrow 0 1\nwind 0 5 - 5\nend\n")

    def test_no_water(self):
        self.refused(InvalidChart(row=-1, column=-1), Chart, [[None]])

    def test_charts_of_the_other_examples(self):
        chart = Chart([[0, 1]], [(0, 5, 2, 5, 3)])
        self.same([chart.top, chart.last, chart.cells()], [9, 1, [(0, 0), (0, 1)]])
        chart = Chart([[0]], top=5)
        self.same([chart.top, chart.last, chart.cells()], [5, 0, [(0, 0)]])
        chart = Chart([[9, 9]], [(0, 0, 0, 0, 0), (0, 0, 0, 0, 0)], top=9)
        self.same([chart.top, chart.last, chart.cells()], [9, 2, [(0, 0), (0, 1)]])

    def test_steps(self):
        chart = Chart([[0, 1]], [(0, 5, 2, 5, 3)])
        losses = [least_loss(chart, (0, 0, start), [(1, 0, end)]) for start in range(2) for end in range(2)]
        self.same(losses, [0, 3, 3, 1])

    def test_the_sky_of_the_first_lot(self):
        chart = Chart([[0, 1]], [(0, 5, 2, 5, 3)])
        sky = Sky(chart, [((0, 0, 0), 4), ((0, 0, 1), 7), ((1, 0, 0), 4)])
        self.same([sky.squalls(), sky.heights()], [
            [((0, 0, 0), 4), ((0, 0, 1), 7), ((1, 0, 0), 4)],
            {(0, 0, 0): 4, (0, 0, 1): 7, (1, 0, 0): 4, (1, 0, 1): 6}])
        sayings = [at_most([(1, 0, 0)], 4), squall_most((1, 0, 1), 0), at_least([(1, 0, 1)], 6),
                   at_least([(1, 0, 1)], 7)]
        self.same([saying.kept_by(sky) for saying in sayings], [True, True, True, False])

    def test_heights_that_are_skipped(self):
        cell = [(0, 0, 0)]
        chart = Chart([[0]], top=5)
        saying = if_then(cell, 1, cell, 3)
        found = [height for height in range(6) if saying.kept_by(Sky(chart, [((0, 0, 0), height)]))]
        self.same(found, [0, 3, 4, 5])

    def test_a_saying_that_no_sky_keeps(self):
        cell = [(0, 0, 0)]
        saying = under(cell, cell, -3)
        self.same(str(saying), "under -3 0.0.0 0.0.0")
        chart = Chart([[0]], top=5)
        self.same([saying.kept_by(Sky(chart, [((0, 0, 0), height)])) for height in range(6)], [False] * 6)

    def test_the_highest_sky(self):
        chart = Chart([[0, 1]], [(0, 5, 2, 5, 3)])
        lot = Lot(chart, [at_most([(1, 0, 0)], 4), squall_most((1, 0, 1), 0)])
        self.same([lot.sky.squalls(), lot.sky.heights(), lot.can_be], [
            [((0, 0, 0), 4), ((0, 0, 1), 7), ((1, 0, 0), 4)],
            {(0, 0, 0): 4, (0, 0, 1): 7, (1, 0, 0): 4, (1, 0, 1): 6}, True])

    def test_floors_that_can_be_put_to_a_lot(self):
        chart = Chart([[0, 1]], [(0, 5, 2, 5, 3)], top=9)
        lot = Lot(chart, [at_most([(1, 0, 0)], 4)])
        self.same([lot.sky.squall(place) for place in chart.places()], [4, 7, 4, 9])
        lot.put(squall_most((1, 0, 1), 0))
        found = [lot.with_sayings([at_least([(1, 0, 1)], amount)]).can_be for amount in [6, 7]]
        self.same(found, [True, False])

    def test_a_lot_that_cannot_be(self):
        lot = Lot(Chart([[0, 1]], [(0, 5, 2, 5, 3)]))
        lot.put(at_most([(1, 0, 0)], 4), squall_most((1, 0, 1), 0), at_least([(1, 0, 1)], 5), at_most([(0, 0, 1)], 5))
        self.same([lot.can_be, core(lot), lot.broken(), lot.sky.height((1, 0, 1))], [False, [0, 1, 2, 3], [2], 4])

    def test_ceilings_without_a_sky(self):
        cell = [(0, 0, 0)]
        lot = Lot(Chart([[0]], top=5), [under(cell, cell, -3)])
        self.same([lot.sky, lot.can_be, len(lot.lines()), lot.lines()[0][1], lot.text()],
                  [None, False, 1, 2, "under -3 0.0.0 0.0.0\n"])

    def test_verdicts_causes_and_choices(self):
        chart = Chart([[0, 1]], [(0, 5, 2, 5, 3)])
        lot = Lot(chart, [at_most([(1, 0, 0)], 4), squall_most((1, 0, 1), 0), at_least([(1, 0, 1)], 5)])
        first = [verdict(lot, at_least([(0, 0, 1)], 6)), verdict(lot, at_most([(1, 0, 0)], 2)),
                 verdict(lot, at_most([(1, 0, 0)], 3))]
        self.same([first, possible_causes(lot, [(1, 0, 1)], 5), height_span(lot, [(1, 0, 0)]),
                   choices(lot, [(1, 0, 0)])],
                  [["sure", "never", "open"], [(0, 0, 1)], (3, 4), [(2, 3, (0, 0, 1))]])

    def test_skipped_heights(self):
        cell = [(0, 0, 0)]
        lot = Lot(Chart([[0]], top=5), [if_then(cell, 1, cell, 3)])
        self.same([possible_heights(lot, cell), skipped_heights(lot, cell)], [[0, 3, 4, 5], [1, 2]])

    def test_hedges(self):
        chart = Chart([[9, 9]], [(0, 0, 0, 0, 0), (0, 0, 0, 0, 0)], top=9)
        lot = Lot(chart, [at_most([(0, 0, 0), (0, 0, 1), (2, 0, 0), (2, 0, 1)], 0), at_most([(1, 0, 0)], 0, gauge="a"),
                          at_most([(1, 0, 1)], 0, gauge="b")])
        doubt = Doubt(lot)
        trip = Trip(chart, (0, 0), (0, 0))
        self.same([doubt.cases(), blind_promise(doubt, trip)[0], seeing_promise(doubt, trip),
                   informed_promise(doubt, trip, 0), informed_promise(doubt, trip, 1),
                   informed_promise(doubt, trip, 2)],
                  [[("a",), ("b",)], 9, 0, 0, 9, 9])

    def test_an_office(self):
        office = Office(Chart([[0, 1]], [(0, 5, 2, 5, 3)]))
        done = office.do(("report", at_most([(1, 0, 0)], 4)), ("report", squall_most((1, 0, 1), 0)),
                         ("watch", at_most([(1, 0, 1)], 6)), ("hour",), ("publish",))
        self.same([done, office.say("ask atleast 7 1.0.1"), office.bulletins(), office.history()],
                  [None, "never", [(1, ("sure",), (((0, 0), 4), ((0, 1), 6)))], (1, 0)])
