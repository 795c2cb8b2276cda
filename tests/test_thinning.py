"""Thin skies against all skies of small charts."""

from highestsky.charts import Chart
from highestsky.errors import NotPlain, OtherChart, Unkept
from highestsky.lots import Lot
from highestsky.sayings import at_least, at_most, exactly, if_then, level, squall_least, squall_most, under
from highestsky.skies import Sky
from highestsky.thinning import is_thin, thinned
from tests.helpers import CALM_WIND, largest_chart
from tests.test_verdicts import CHART, A, B, C, CALM, D, FIVE, LOW, LotCase, example
from tests.worlds import FLOORS, PLAIN, cases

OTHER = Chart(CHART.rows(), CHART.winds(), top=8)


def is_least(world, found, at):
    """Whether no squall above 0 can be made less by 1, by the words of [32]."""
    for place, number in world.squalls[at].items():
        if number and world.index_of(world.sky(at).with_squall(place, number - 1)) in found:
            return False
    return True


class AllSkies(LotCase):
    def check(self, world, lot, found, at):
        wanted = is_least(world, found, at)
        self.same(self.told(is_thin, lot, world.sky(at)), wanted)
        thin = self.told(thinned, lot, world.sky(at))
        self.same([world.index_of(thin) in found, thin.is_below(world.sky(at)), thin.chart == world.chart],
                  [True, True, True])
        self.same([is_least(world, found, world.index_of(thin)), is_thin(lot, thin)], [True, True])
        self.same(thinned(lot, thin) == thin, True)
        # No other sky of the lot is below a thin one.
        below = [other for other in found if world.sky(other).is_below(thin)]
        self.same(below, [world.index_of(thin)])
        if wanted:
            self.same(thin == world.sky(at), True)
        return wanted

    def test_plain_lots(self):
        met = []
        for maker, world, sayings in [*cases(130, 12, most=5, kinds=PLAIN),
                                      *cases(131, 12, most=4, kinds=[*FLOORS, "exactly"]),
                                      *cases(132, 6, most=3, kinds=["atmost", "squallleast", "atleast"])]:
            found = world.skies_of(sayings)
            lot = Lot(world.chart, sayings)
            for at in maker.choices(found, k=4) + found[:1] + found[-1:] if found else []:
                met.append((self.check(world, lot, found, at), bool(world.sky(at))))
        self.assertGreater(min(met.count((True, True)), met.count((False, True))), 100)

    def test_each_sky(self):
        for _, world, sayings in cases(133, 1, most=3, kinds=PLAIN):
            found = world.skies_of(sayings)
            for at in found[:60]:
                self.check(world, Lot(world.chart, sayings), found, at)


class Examples(LotCase):
    def test_a_lot_without_floors(self):
        for lot in [Lot(CHART), Lot(CHART, [LOW, CALM]), Lot(CHART, [exactly(A, 0)])]:
            self.same(thinned(lot, lot.sky).squalls(), [])
            self.same([is_thin(lot, lot.sky), is_thin(lot, Sky(CHART))], [False, True])

    def test_an_example(self):
        lot = example()
        self.same([thinned(lot, lot.sky).squalls(), is_thin(lot, lot.sky)], [[(B[0], 6)], False])
        self.same(thinned(lot=lot, sky=Sky(CHART, [(A[0], 2), (B[0], 7)])).squalls(), [(B[0], 6)])
        self.same([is_thin(lot=lot, sky=Sky(CHART, [(B[0], 6)])), is_thin(lot, Sky(CHART, [(B[0], 7)])),
                   is_thin(lot, Sky(CHART, [(A[0], 1), (B[0], 6)]))], [True, False, False])

    def test_floors_of_both_kinds(self):
        lot = Lot(CHART, [at_least(D, 5), squall_least(A[0], 2), squall_least(A[0], 1)])
        thin = thinned(lot, Sky(CHART, [(A[0], 9), (B[0], 5)]))
        self.same(thin.squalls(), [(A[0], 8)])
        self.same(is_thin(lot, Sky(CHART, [(A[0], 2), (D[0], 5)])), True)
        self.same(is_thin(lot, Sky(CHART, [(A[0], 2), (D[0], 6)])), False)
        # Each of the two floors could stand on (0, 0, 1) alone.
        lot = Lot(CHART, [at_least(B, 3), exactly(B + D, 3)])
        self.same([is_thin(lot, Sky(CHART, [(B[0], 3)])), is_thin(lot, Sky(CHART, [(B[0], 3), (D[0], 3)]))],
                  [True, False])

    def test_both_are_needed_only_together(self):
        # Without either squall the other one is needed, so that thin skies may be without common squalls.
        lot = Lot(Chart([[0, 0]], [CALM_WIND]), [at_least([(1, 0, 0)], 4)])
        sky = Sky(lot.chart, [((0, 0, 0), 4), ((0, 0, 1), 4)])
        self.same([is_thin(lot, sky), len(thinned(lot, sky))], [False, 1])
        self.same([is_thin(lot, Sky(lot.chart, [(place, 4)])) for place in lot.chart.places()[:3]],
                  [True, True, True])

    def test_sixty_and_more_sayings(self):
        lot = Lot(CHART, [LOW, CALM, FIVE] * 20)
        self.same(thinned(lot, lot.sky).squalls(), [(B[0], 6)])
        more = lot.with_sayings([squall_least(C[0], 3)])
        self.same(thinned(more, more.sky).squalls(), [(B[0], 6), (C[0], 3)])
        self.refused_by(Unkept(60), is_thin, more, lot.sky.with_squall(C[0], 2))

    def test_the_largest_chart(self):
        chart = largest_chart()
        lot = Lot(chart, [at_least([(8, at // 6, at % 6)], 60 + at % 7) for at in range(36)])
        thin = thinned(lot, lot.sky)
        self.same([lot.keeps(thin), is_thin(lot, thin), is_thin(lot, lot.sky)], [True, True, False])
        for place, number in thin.squalls():
            self.same(lot.keeps(thin.with_squall(place, number - 1)), False)


class Errors(LotCase):
    def test_other_charts(self):
        for lot in [example(), Lot(CHART, [under(A, B, 0)]), Lot(CHART, [at_least(A, 10)])]:
            for chart in [OTHER, Chart([[0]]), Chart(CHART.rows())]:
                for call in [is_thin, thinned]:
                    self.refused_by(OtherChart(), call, lot, Sky(chart))
        equal = Chart(CHART.rows(), CHART.winds())
        self.same(is_thin(example(), Sky(equal, [((0, 0, 1), 6)])), True)

    def test_not_plain(self):
        for saying in [under(A, B, 0), level(A, B, 0), if_then(A, 1, B, 1)]:
            for ahead in [[], [LOW], [at_least(A, 10), LOW, exactly(A, 3)]]:
                for behind in [[], [saying], [at_least(A, 10)]]:
                    lot = Lot(CHART, [*ahead, saying, *behind])
                    for sky in [Sky(CHART), Sky.full(CHART)]:
                        for call in [is_thin, thinned]:
                            self.refused_by(NotPlain(len(ahead)), call, lot, sky)

    def test_unkept(self):
        for sayings, squalls, at in [([LOW, CALM, FIVE], [], 2), ([LOW, CALM, FIVE], [(B[0], 8)], 0),
                                     ([LOW, CALM, FIVE], [(D[0], 9)], 1), ([at_least(A, 10)], [(A[0], 9)], 0),
                                     ([CALM, exactly(A, 3), at_most(A, 2)], [(A[0], 3)], 2),
                                     ([exactly(A, 3), at_most(A, 2)], [(A[0], 2)], 0),
                                     ([squall_least(A[0], 3), squall_most(A[0], 3)], [(A[0], 4)], 1),
                                     ([squall_most(A[0], 3), squall_least(A[0], 3)], [(A[0], 2)], 1)]:
            for call in [is_thin, thinned]:
                self.refused_by(Unkept(at), call, Lot(CHART, sayings), Sky(CHART, squalls))
