"""What a lot tells of itself, and what is refused."""

import random

from highestsky.charts import Chart
from highestsky.errors import InvalidSaying, InvalidText, NoSky, OffChart, OtherChart, TooMany, UnknownSaying
from highestsky.lots import Lot
from highestsky.papers import is_paper
from highestsky.sayings import at_least, at_most, exactly, if_then, level, squall_least, squall_most, under
from highestsky.skies import Sky
from tests.helpers import Case, any_values, largest_chart
from tests.worlds import WORLDS, cases, lots, state

CHART = Chart([[0, 1]], [(0, 5, 2, 5, 3)])
OTHER = Chart([[0, 1]], [(0, 5, 2, 5, 3)], top=8)
A, B, C, D = [(0, 0, 0)], [(0, 0, 1)], [(1, 0, 0)], [(1, 0, 1)]
LOW, CALM, FIVE = at_most(C, 4), squall_most(D[0], 0), at_least(D, 5)
OFF = at_most([(2, 0, 0)], 4)


def example():
    return Lot(CHART, [LOW, CALM, FIVE])


def hopeless():
    """A lot whose ceilings have no sky."""
    return Lot(CHART, [LOW, under(A, B, 0), under(B, A, -1), FIVE])


class Kept(Case):
    """Cases that watch whether a lot stays as it is."""

    def refused_by(self, wanted, lot, call, *args, **named):
        before = state(lot)
        self.refused(wanted, call, *args, **named)
        self.same(state(lot), before)


class Making(Kept):
    def test_without_sayings(self):
        for lot in [Lot(CHART), Lot(CHART, []), Lot(chart=CHART, sayings=())]:
            self.same([lot.chart == CHART, lot.sayings(), lot.parts(), lot.lines(), lot.can_be, lot.begun],
                      [True, [], [], [], True, 1])
            self.same([len(lot), bool(lot), repr(lot), str(lot), lot.text(), lot.broken(), lot.is_plain()],
                      [0, True, "Lot(0 sayings)", "", "", [], True])
            self.same([lot.sky == Sky.full(CHART), lot.paper()[0], lot.paper()[1] == Sky.full(CHART)],
                      [True, "sky", True])

    def test_no_list(self):
        for value in [value for value in any_values() if not isinstance(value, (list, tuple))] + [LOW, example(), "",
                                                                                                  {}]:
            self.refused(InvalidSaying(-1), Lot, CHART, value)
            self.refused_by(InvalidSaying(-1), lot := example(), lot.with_sayings, value)

    def test_no_sayings(self):
        wrong = [*any_values(), "atmost 4 1.0.0", [LOW], (LOW,), Lot(CHART), Sky(CHART)]
        for value in wrong:
            for call in [lambda sayings: Lot(CHART, sayings), example().with_sayings,
                         lambda sayings: example().put(*sayings)]:
                self.refused(InvalidSaying(0), call, [value])
                self.refused(InvalidSaying(1), call, (LOW, value, LOW, value))
                self.refused(InvalidSaying(2), call, [OFF, OFF, value, None])
                self.refused(InvalidSaying(60), call, [LOW] * 60 + [value])
                self.refused(InvalidSaying(70), call, [OFF] * 70 + [value])

    def test_places_off_the_chart(self):
        # By sayings, then by their regions in order, then ascending.
        first = [under([(2, 0, 1), (1, 0, 3)], [(0, 0, 2)], 4), at_most([(0, 3, 0)], 1)]
        for call in [lambda sayings: Lot(CHART, sayings), example().with_sayings,
                     lambda sayings: example().put(*sayings)]:
            self.refused(OffChart((2, 0, 0)), call, [OFF])
            self.refused(OffChart((1, 0, 3)), call, [LOW, *first])
            self.refused(OffChart((0, 0, 2)), call, [under(A, [(0, 0, 2)], 4), *first])
            self.refused(OffChart((0, 3, 0)), call, first[::-1])
            self.refused(OffChart((2, 0, 0)), call, [LOW] * 70 + [OFF])
            for saying in [squall_most((1, 1, 0), 3), squall_least((1, 1, 0), 3), level(A, [(1, 1, 0)], 0),
                           if_then(A, 1, [(1, 1, 0)], 1),
                           exactly([*A, (1, 1, 0)], 0), at_least([(1, 1, 0)], 100)]:
                self.refused(OffChart((1, 1, 0)), call, [LOW, saying, OFF])

    def test_sixty(self):
        self.same([Lot.MOST, len(Lot(CHART, [LOW] * 60)), len(Lot(CHART, (LOW,) * 60))], [60, 60, 60])
        for many in [61, 100, 400]:
            self.refused(TooMany(60), Lot, CHART, [LOW] * many)
        lot = Lot(CHART, [LOW] * 59)
        self.refused_by(TooMany(60), lot, lot.put, LOW, CALM)
        lot.put(CALM)
        self.same([len(lot), lot.sky.squall(D[0])], [60, 0])
        self.refused_by(TooMany(60), lot, lot.put, LOW)
        self.refused_by(InvalidSaying(1), lot, lot.put, LOW, None)
        self.refused_by(OffChart((2, 0, 0)), lot, lot.put, OFF, OFF)
        lot.put()
        self.same(len(lot), 60)

    def test_more_than_sixty(self):
        lot = Lot(CHART, [LOW] * 60)
        more = lot.with_sayings([CALM, FIVE])
        self.same([len(lot), len(more), more.can_be, more.sky.squall(D[0]), lot.sky.squall(D[0])], [60, 62, True, 0, 9])
        self.refused_by(TooMany(60), more, more.put, LOW)
        more.put()
        self.same([len(more), len(more.twin()), len(more.with_sayings([LOW] * 400))], [62, 62, 462])
        more.take_back(61)
        more.take_back(60)
        self.refused_by(TooMany(60), more, more.put, LOW)
        more.take_back(0)
        more.put(FIVE)
        self.same([len(more), more.begun, lot.begun], [60, 4, 1])

    def test_chart(self):
        lot = example()
        self.same([lot.chart is CHART or lot.chart == CHART, lot.with_sayings([]).chart == CHART,
                   lot.twin().chart == CHART],
                  [True] * 3)


class Putting(Kept):
    def test_all_or_none(self):
        lot = example()
        for wrong, error in [((CALM, None), InvalidSaying(1)), ((CALM, OFF), OffChart((2, 0, 0))),
                             ((CALM,) * 58, TooMany(60)),
                             ((None, OFF), InvalidSaying(0)), ((OFF, None), InvalidSaying(1)),
                             ((LOW,) * 70 + (OFF,), OffChart((2, 0, 0))),
                             ((LOW,) * 70 + (7,), InvalidSaying(70))]:
            self.refused_by(error, lot, lot.put, *wrong)

    def test_several(self):
        lot = Lot(CHART)
        self.assertIsNone(lot.put(LOW, CALM))
        self.assertIsNone(lot.put())
        self.assertIsNone(lot.put(FIVE))
        self.same([lot == example(), state(lot)], [True, state(example())])

    def test_begun(self):
        lot = Lot(CHART)
        lot.put(LOW)
        lot.put(CALM, FIVE)
        self.same([lot.begun, lot.with_sayings([LOW]).begun, lot.twin().begun], [1, 1, 1])
        self.assertIsNone(lot.take_back(1))
        self.same([lot.begun, lot.with_sayings([LOW]).begun, lot.twin().begun], [2, 2, 2])
        lot.put(CALM)
        lot.take_back(at=0)
        self.same([lot.begun, lot.text()], [3, "atleast 5 1.0.1\nsquallmost 0 1.0.1\n"])
        for call in [lot.sayings, lot.parts, lot.lines, lot.paper, lot.broken, lot.text, lot.is_plain]:
            call()
        self.same([lot.sky is None, lot.can_be, lot.begun], [False, True, 3])

    def test_taken_back(self):
        lot = example()
        lot.take_back(1)
        self.same([lot.sayings() == [LOW, FIVE], lot.sky.squall(D[0]), len(lot)], [True, 9, 2])
        lot.take_back(1)
        lot.take_back(0)
        self.same([lot.sayings(), lot.sky == Sky.full(CHART), lot.begun], [[], True, 4])

    def test_no_index(self):
        lot = example()
        for value in [-1, 3, 4, 100, True, False, *[value for value in any_values() if value != 0], LOW, lot, [1],
                      (1,), "1"]:
            self.refused_by(UnknownSaying(value), lot, lot.take_back, value)
        empty = Lot(CHART)
        for value in [0, -1, 1, None]:
            self.refused_by(UnknownSaying(value), empty, empty.take_back, value)

    def test_what_is_changed_afterwards(self):
        sayings = [LOW, CALM, FIVE]
        lot = Lot(CHART, sayings)
        more = lot.with_sayings(sayings)
        before, later = state(lot), state(more)
        sayings.clear()
        for told in [lot.sayings(), lot.parts(), lot.lines(), lot.broken(), more.sayings(), more.parts(), more.lines()]:
            told.append(None)
        lot.sky.squalls().clear()
        lot.sky.heights().clear()
        self.same([state(lot), state(more)], [before, later])

    def test_twins(self):
        lot = example()
        twin, more = lot.twin(), lot.with_sayings([at_most(B, 5)])
        before, later = state(twin), state(more)
        lot.put(under(A, B, -3))
        lot.take_back(0)
        self.same([state(twin), state(more), before == state(lot)], [before, later, False])
        now = state(lot)
        twin.put(CALM)
        twin.take_back(0)
        more.take_back(3)
        self.same([state(lot), more.begun, lot.begun, twin.begun], [now, 2, 2, 2])

    def test_with_sayings(self):
        lot = example()
        for more in [lot.with_sayings([LOW, CALM]), lot.with_sayings(sayings=(LOW, CALM))]:
            self.same(more.sayings() == [LOW, CALM, FIVE, LOW, CALM], True)
        self.same([len(lot), lot.with_sayings(()) == lot, lot.with_sayings([]) is lot], [3, True, False])
        for wrong, error in [([CALM, None], InvalidSaying(1)), ((CALM, OFF), OffChart((2, 0, 0))),
                             (None, InvalidSaying(-1)),
                             ([None, OFF], InvalidSaying(0)), ([OFF, None], InvalidSaying(1))]:
            self.refused_by(error, lot, lot.with_sayings, wrong)


class Telling(Kept):
    def test_lists(self):
        lot = Lot(CHART, [exactly(C, 4, gauge="a"), level(A, B, -2), exactly(D, 0), FIVE])
        self.same(lot.sayings() == [exactly(C, 4, gauge="a"), level(A, B, -2), exactly(D, 0), FIVE], True)
        self.same([part.text() for part in lot.parts()],
                  ["by a atmost 4 1.0.0", "by a atleast 4 1.0.0", "under -2 0.0.0 0.0.1", "under 2 0.0.1 0.0.0",
                   "atmost 0 1.0.1",
                   "atleast 5 1.0.1"])

    def test_text(self):
        lot = Lot(CHART, [exactly([*C, *A], 4, gauge="a"), level(A, B, -2), CALM, CALM])
        text = "by a exactly 4 0.0.0+1.0.0\nlevel -2 0.0.0 0.0.1\nsquallmost 0 1.0.1\nsquallmost 0 1.0.1\n"
        self.same([lot.text(), str(lot), repr(lot)], [text, text, "Lot(4 sayings)"])
        self.same([repr(Lot(CHART, [LOW])), repr(example())], ["Lot(1 sayings)", "Lot(3 sayings)"])

    def test_in(self):
        lot = Lot(CHART, [at_most([*C, *C], 4, gauge="a"), exactly(A, 3), CALM])
        for saying in [at_most(C, 4, gauge="a"), exactly(A, 3), squall_most(D[0], 0)]:
            self.same(saying in lot, True)
        for value in [*any_values(), LOW, at_most(C, 4, gauge="b"), at_most(C, 3, gauge="a"), at_most(A, 3),
                      at_least(A, 3), OFF, lot,
                      [exactly(A, 3)], "exactly 3 0.0.0", Sky(CHART), CHART]:
            self.same(value in lot, False)
        self.same(CALM in Lot(CHART), False)

    def test_equal(self):
        self.same([example() == example(), example() != example()], [True, False])
        later = Lot(CHART, [FIVE, LOW, CALM, FIVE])
        later.take_back(0)
        later.take_back(2)
        later.put(FIVE)
        self.same([later == example(), later.begun, Lot(CHART, (LOW,)) == Lot(Chart(CHART.rows(), CHART.winds()),
                                                                              [LOW])],
                  [True, 3, True])
        for other in [Lot(CHART), Lot(CHART, [LOW, CALM]), Lot(CHART, [CALM, LOW, FIVE]),
                      Lot(OTHER, [LOW, CALM, FIVE]), LOW, CHART, None,
                      Lot(CHART, [LOW, CALM, FIVE.with_gauge("a")]), [LOW, CALM, FIVE], example().text(), 3,
                      example().sky]:
            self.same([example() == other, example() != other], [False, True])

    def test_plain(self):
        plain = [LOW, FIVE, exactly(A, 3), CALM, squall_least(A[0], 1)]
        self.same([Lot(CHART, plain).is_plain(), Lot(CHART).is_plain()], [True, True])
        for saying in [under(A, B, 0), level(A, B, 0), if_then(A, 1, B, 1)]:
            self.same([Lot(CHART, [*plain, saying]).is_plain(), Lot(CHART, [saying, *plain]).is_plain()],
                      [False, False])

    def test_keeps(self):
        lot = example()
        for squalls, kept in [([], False), (lot.sky.squalls(), True), ([(B[0], 6)], True), ([(B[0], 5)], False),
                              ([(B[0], 8)], False),
                              ([(B[0], 6), (D[0], 1)], False)]:
            self.same(lot.keeps(Sky(CHART, squalls)), kept)
        self.same([lot.keeps(sky=lot.sky), Lot(CHART).keeps(Sky(CHART)), hopeless().keeps(Sky(CHART))],
                  [True, True, False])
        for sky in [Sky(OTHER), Sky(Chart([[0]]))]:
            self.refused_by(OtherChart(), lot, lot.keeps, sky)
            self.refused(OtherChart(), Lot(CHART).keeps, sky)
            self.refused(OtherChart(), hopeless().keeps, sky)

    def test_broken(self):
        self.same([example().broken(), example().with_sayings([at_most(B, 5)]).broken()], [[], [2]])
        lot = Lot(CHART, [at_least(A, 9), exactly(C, 4), squall_least(B[0], 8), at_most(C, 3), under(A, B, 0)])
        self.same([lot.broken(), lot.can_be, lot.sky.squalls()], [[0, 1, 2], False,
                                                                  [(A[0], 3), (B[0], 6), (C[0], 3), (D[0], 9)]])

    def test_broken_without_a_sky(self):
        lot = hopeless()
        before = state(lot)
        with self.assertRaises(NoSky) as caught:
            lot.broken()
        self.same([is_paper(lot, caught.exception.grounds), caught.exception.grounds[0], lot.sky, lot.can_be],
                  [True, "none", None, False])
        self.same(state(lot), before)

    def test_floors_alone_do_not_take_the_sky(self):
        lot = Lot(CHART, [at_least(A, 10), FIVE])
        self.same([lot.can_be, lot.sky == Sky.full(CHART), lot.broken(), lot.lines(), lot.paper()[:2]],
                  [False, True, [0], [], ("none", ())])

    def test_further_sayings_without_a_sky(self):
        lot = hopeless()
        lot.put(at_most(A, 0), FIVE)
        self.same([lot.sky, lot.can_be, len(lot), is_paper(lot, lot.paper())], [None, False, 6, True])
        lot.take_back(2)
        self.same([lot.sky is None, lot.can_be, lot.broken(), lot.begun], [False, True, [], 2])


class Reading(Kept):
    def test_there_and_back(self):
        for _, world, lot in lots(16, 20):
            self.same(state(Lot.read(world.chart, lot.text())), state(lot))
        self.same([Lot.read(chart=CHART, text=example().text()) == example(), Lot.read(CHART, "").sayings()],
                  [True, []])

    def test_many_lines(self):
        line = "atmost 4 1.0.0\n"
        self.same(len(Lot.read(CHART, line * 60)), 60)
        for many in [61, 62, 400]:
            self.refused(InvalidText(60, "many"), Lot.read, CHART, line * many)
        self.refused(InvalidText(60, "form"), Lot.read, CHART, line * 60 + "atmost 4\n")
        self.refused(InvalidText(60, "form"), Lot.read, CHART, line * 60 + line[:-1])
        self.refused(InvalidText(60, "chart"), Lot.read, CHART, line * 60 + "atmost 4 2.0.0\n")
        self.refused(InvalidText(60, "many"), Lot.read, CHART, line * 61 + "atmost 4\n")
        self.refused(InvalidText(59, "chart"), Lot.read, CHART, line * 59 + "atmost 4 2.0.0\n" + line)

    def test_form(self):
        line = "atmost 4 1.0.0\n"
        for wrong in ["\n", "x\n", "end\n", "atmost 4\n", " " + line, line[:-1] + " \n", line[:-1], "x",
                      "atmost 100 1.0.0\n", "by A " + line,
                      line.upper(), "atmost 4 1.0.0 1.0.1\n", "atmost 04 1.0.0\n", "atmost 4 1.0.0+0.0.0\n"]:
            for ahead in range(4):
                self.refused(InvalidText(ahead, "form"), Lot.read, CHART, line * ahead + wrong)
                if wrong[-1] == "\n":
                    self.refused(InvalidText(ahead, "form"), Lot.read, CHART, line * ahead + wrong + "atmost 4 2.0.0\n")
        self.refused(InvalidText(0, "form"), Lot.read, CHART, "atmost 4 2.0.0")

    def test_chart(self):
        line = "atmost 4 1.0.0\n"
        for wrong in ["atmost 4 2.0.0\n", "under 4 0.0.0 0.1.0\n", "by a squallmost 4 0.0.2\n",
                      "ifthen 1 0.0.0 1 0.0.0+8.5.5\n"]:
            for ahead in range(4):
                self.refused(InvalidText(ahead, "chart"), Lot.read, CHART, line * ahead + wrong + "x\n")
                self.refused(InvalidText(ahead, "chart"), Lot.read, CHART, line * ahead + wrong + line[:-1])

    def test_no_string(self):
        for value in [value for value in any_values() if not isinstance(value, str)] + [example(),
                                                                                        ["atmost 4 1.0.0\n"]]:
            self.refused(InvalidText(0, "form"), Lot.read, CHART, value)


class AnyWayOfMaking(Kept):
    def test_one_by_one_and_all_at_once(self):
        for maker, world, sayings in cases(17, 25):
            lot = Lot(world.chart)
            for saying in sayings:
                lot.put(saying)
            wanted = state(lot)
            self.same(state(Lot(world.chart, sayings)), wanted)
            some = maker.randint(0, len(sayings))
            lot = Lot(world.chart, sayings[:some])
            self.same(state(lot.with_sayings(sayings[some:])), wanted)
            lot.put(*sayings[some:])
            self.same(state(lot), wanted)
            self.same(state(lot.twin()), wanted)

    def test_taken_back(self):
        for maker, world, sayings in cases(18, 25):
            other = world.saying(maker)
            at = maker.randint(0, len(sayings))
            lot = Lot(world.chart, [*sayings[:at], other, *sayings[at:]])
            lot.take_back(at)
            wanted = state(Lot(world.chart, sayings))
            wanted[2] = 2
            self.same(state(lot), wanted)

    def test_the_largest_chart(self):
        chart = largest_chart()
        maker = random.Random(6)
        places = chart.places()
        self.same(len(places), 324)
        sayings = [at_most(maker.sample(places, 40), maker.randint(60, 99)) for _ in range(30)]
        sayings += [under(maker.sample(places, 40), maker.sample(places, 40), maker.randint(-3, 10)) for _ in range(20)]
        sayings += [if_then(maker.sample(places, 3), 30, maker.sample(places, 3), 40) for _ in range(9)]
        lot = Lot(chart, sayings)
        lot.put(at_least(places[:40], 1))
        self.same([len(lot), lot.can_be, lot.begun, lot.keeps(lot.sky), is_paper(lot, lot.paper())],
                  [60, True, 1, True, True])
        turned = Lot(chart, sayings[::-1])
        self.same(turned.sky == lot.sky, True)
        lot.put()
        lot.take_back(59)
        lot.put(at_least(places[:40], 100))
        self.same([lot.can_be, lot.broken(), is_paper(lot, lot.paper()), lot.sky == turned.sky],
                  [False, [59], True, True])
        barred = Lot(chart, [level([places[at]], [places[at + 1]], -1) for at in range(60)])
        self.same([barred.can_be, barred.keeps(barred.sky), barred.sky.height(places[0])], [True, True, 39])

    def test_worlds_are_of_both_sorts(self):
        found = [(lot.sky is None, lot.can_be) for _, _, lot in lots(19, 25)]
        self.assertGreater(min(found.count(sort) for sort in [(True, False), (False, False), (False, True)]), 10)
        self.assertEqual(len(WORLDS), 8)
