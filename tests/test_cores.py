"""Cores against all parts of the list of sayings; needless sayings, least lots and compared lots against all skies."""

import itertools
import random

from highestsky.charts import Chart
from highestsky.cores import are_alike, core, is_core, is_stronger, least_lot, needless, parting_sky
from highestsky.errors import HasSky, OtherChart
from highestsky.lots import Lot
from highestsky.sayings import at_least, at_most, exactly, level, squall_least, squall_most, under
from highestsky.skies import Sky
from tests.helpers import any_values, largest_chart
from tests.test_verdicts import CHART, A, B, C, CALM, D, FIVE, LOW, LotCase, example, impossible_lots
from tests.worlds import WORLDS, cases, state

OTHER = Chart([[0, 1]], [(0, 5, 2, 5, 3)], top=8)


def parts_that_are_cores(world, sayings):
    """The ascending lists of indexes that are cores by the words of [27], among all parts of the list of sayings."""
    kept = [set(world.skies_of([saying])) for saying in sayings]
    everything = set(world.all)
    subsets = [list(found) for many in range(len(sayings) + 1)
               for found in itertools.combinations(range(len(sayings)), many)]
    hopeless = [found for found in subsets if not everything.intersection(*[kept[at] for at in found])]
    return [found for found in hopeless
            if not [at for at in found if [other for other in found if other != at] in hopeless]]


def barely_hopeless(seed, many):
    """Lists of sayings that can be together but for the last one, which can be alone."""
    maker = random.Random(seed)
    for world in WORLDS:
        for _ in range(many):
            sayings, found = [], list(world.all)
            while found and len(sayings) < 7:
                saying = world.saying(maker)
                kept = world.skies_of([saying])
                both = [at for at in found if at in kept]
                if len(kept) * 4 > len(world.all) * 3 or kept and not both:
                    sayings.append(saying)
                    found = both
            yield world, sayings


class Cores(LotCase):
    def test_against_all_parts(self):
        sizes = []
        for world, sayings in [*[case[1:] for case in cases(80, 15, most=5)], *barely_hopeless(88, 20)]:
            lot = Lot(world.chart, sayings)
            if lot.can_be:
                self.refused_by(HasSky(), core, lot)
                for value in [[], (), list(range(len(sayings))), [0], None]:
                    self.same(self.told(is_core, lot, value), False)
                continue
            wanted = parts_that_are_cores(world, sayings)
            found = self.told(core, lot)
            self.assertIs(type(found), list)
            self.assertIn(found, wanted)
            sizes.append(len(found))
            for many in range(len(sayings) + 1):
                for value in itertools.combinations(range(len(sayings)), many):
                    self.same(self.told(is_core, lot, value), list(value) in wanted)
                    self.same(is_core(lot, list(value)), list(value) in wanted)
        for size in [1, 2, 3]:
            self.assertGreater(sizes.count(size), 4)

    def test_equal_lots(self):
        for maker, world, sayings in cases(81, 15, most=5):
            lot = Lot(world.chart)
            for saying in sayings:
                lot.put(saying)
            if not lot.can_be:
                self.same(core(lot), core(Lot(world.chart, sayings)))

    def test_an_example(self):
        lot = Lot(CHART, [at_most(A, 9), LOW, CALM, at_least(A, 1), FIVE, at_most(B, 5), at_most(B, 6)])
        self.same([core(lot), core(lot=lot)], [[1, 2, 4, 5], [1, 2, 4, 5]])
        for value in [[1, 2, 4, 5], (1, 2, 4, 5)]:
            self.same(is_core(lot=lot, value=value), True)
        for value in [[1, 2, 4], [2, 4, 5], [1, 2, 5], [0, 1, 2, 4, 5], [1, 2, 3, 4, 5], [1, 2, 4, 6], [5, 4, 2, 1],
                      [1, 2, 5, 4],
                      [1, 1, 2, 4, 5], [1, 2, 4, 5, 5], [], (), [1, 2, 4, 5, 7], [-1, 1, 2, 4, 5], [1, 2, 4, "5"],
                      [True, 2, 4, 5],
                      [1, 2, 4, 5, None], ((1, 2, 4, 5),), [[1, 2, 4, 5]], {1: 2}, "1245", 1, None, lot,
                      [LOW, CALM, FIVE], [7], [-6],
                      [1, 2, 4, 5.0]]:
            self.same(self.told(is_core, lot, value), False)

    def test_any_values(self):
        for lot in [example(), *impossible_lots()]:
            for value in any_values():
                if value not in ([0], (0,)):
                    self.same(self.told(is_core, lot, value), False)

    def test_indexes_below_zero(self):
        lot = Lot(CHART, [LOW, CALM, FIVE, at_most(B, 5)])
        self.same([is_core(lot, value) for value in [[0, 1, 2, 3], [-1, 0, 1, 2], [-4, -3, -2, -1], [-2, -1, 0, 1]]],
                  [True, False, False, False])

    def test_one_saying(self):
        for lot in [Lot(CHART, [at_least(A, 10)]), Lot(CHART, [under(A, A, -1)]), Lot(CHART, [level(B, B, 5)])]:
            self.same([core(lot), is_core(lot, [0]), is_core(lot, (0,)), is_core(lot, []), is_core(lot, [False])],
                      [[0], True, True, False, False])

    def test_sayings_that_stand_twice(self):
        lot = Lot(CHART, [at_most(A, 3), at_most(A, 3), at_least(A, 5), at_least(A, 5, gauge="a"), exactly(A, 4)])
        self.same([value for value in itertools.combinations(range(5), 2) if is_core(lot, value)],
                  [(0, 2), (0, 3), (0, 4), (1, 2), (1, 3), (1, 4), (2, 4), (3, 4)])
        self.same(is_core(lot, core(lot)), True)

    def test_has_sky(self):
        self.refused_by(HasSky(), core, example())
        self.refused_by(HasSky(), core, Lot(CHART))

    def test_long_cores(self):
        cells = [[(0, row, column)] for row in range(6) for column in range(6)]
        chart = Chart([[0] * 6 for _ in range(6)], top=99)
        sayings = [under(cells[at], cells[at - 1], 0 if at else -1) for at in range(36)]
        lot = Lot(chart, [at_most(cells[3], 80), *sayings, at_least(cells[4], 1), at_most(cells[5], 90)])
        self.same([core(lot), is_core(lot, list(range(1, 37)))], [list(range(1, 37)), True])

    def test_sixty_sayings_on_the_largest_chart(self):
        chart = largest_chart()
        maker = random.Random(82)
        sayings = [level(maker.sample(chart.places(), 20), maker.sample(chart.places(), 20),
                         maker.randint(-5, 5)) for _ in range(60)]
        lot = Lot(chart, sayings)
        self.same([lot.can_be, is_core(lot, core(lot))], [False, True])
        more = lot.with_sayings(sayings)
        self.same([len(more), is_core(more, core(more))], [120, True])


class Needless(LotCase):
    def test_against_all_skies(self):
        found = []
        for maker, world, sayings in cases(83, 20, most=5):
            lot, skies = Lot(world.chart, sayings), world.skies_of(sayings)
            if skies:
                wanted = [at for at in range(len(sayings)) if world.skies_of([*sayings[:at],
                                                                              *sayings[at + 1:]]) == skies]
                answer = self.told(needless, lot)
                self.same(answer, wanted)
                found.append(len(answer))
        self.assertGreater(len(found) - found.count(0), 30)

    def test_least_lots(self):
        sizes = []
        for maker, world, sayings in cases(84, 30, most=6):
            lot, skies = Lot(world.chart, sayings), world.skies_of(sayings)
            if skies:
                least = self.told(least_lot, lot)
                kept = least.sayings()
                self.same([type(least), least.begun, least.chart == lot.chart, needless(least)], [Lot, 1, True, []])
                self.assertEqual(world.skies_of(kept), skies)
                ahead = iter(sayings)
                self.assertTrue(all(saying in ahead for saying in kept))
                self.same(state(least)[1], state(Lot(world.chart, kept))[1])
                sizes.append(len(sayings) - len(kept))
        self.assertGreater(len(sizes) - sizes.count(0), 30)

    def test_examples(self):
        lot = Lot(CHART, [LOW, LOW, at_most(A, 5), CALM, FIVE])
        self.same([needless(lot), needless(lot=example()), needless(Lot(CHART)), needless(Lot(CHART, [at_most(A, 9)]))],
                  [[0, 1, 2], [], [], [0]])
        self.same([least_lot(lot).text().count("\n"), least_lot(lot=example()) == example(),
                   len(least_lot(Lot(CHART)))], [3, True, 0])

    def test_a_new_lot(self):
        lot = example()
        lot.take_back(0)
        lot.put(LOW)
        least = least_lot(lot)
        self.same([least.begun, least == lot, least is lot], [1, True, False])
        before = state(lot)
        least.take_back(0)
        self.same(state(lot), before)

    def test_more_than_sixty(self):
        chart = Chart([[0] * 6 for _ in range(6)], [(0,) * 5, (0,) * 5], top=99)
        sayings = [squall_most(place, 5) for place in chart.places()[:70]]
        lot = Lot(chart, sayings[:60]).with_sayings(sayings[60:])
        least = self.told(least_lot, lot)
        self.same([len(least), least == lot, needless(lot), least.begun], [70, True, [], 1])

    def test_errors(self):
        for call in [needless, least_lot]:
            self.raises_without_a_sky(call)


class Compared(LotCase):
    def both(self, call, lot, other):
        before = state(other)
        answer = self.told(call, lot, other)
        self.same(state(other), before)
        return answer

    def check(self, world, lot, other):
        mine, others = set(world.skies_of(lot.sayings())), set(world.skies_of(other.sayings()))
        self.same(self.both(is_stronger, lot, other), mine <= others)
        self.same(self.both(is_stronger, other, lot), others <= mine)
        self.same(self.both(are_alike, lot, other), mine == others)
        sky = self.both(parting_sky, lot, other)
        self.same(sky is None, mine == others)
        if sky is not None:
            self.same([type(sky), lot.keeps(sky) + other.keeps(sky), world.index_of(sky) in mine ^ others],
                      [Sky, 1, True])
        return (mine <= others, others <= mine)

    def test_against_all_skies(self):
        met = []
        for maker, world, sayings in cases(85, 20, most=3):
            lot = Lot(world.chart, sayings)
            others = [world.sayings(maker, 3), [*sayings, world.saying(maker)], sayings[1:], sayings[::-1],
                      [part for saying in sayings for part in saying.parts()], []]
            for other in others:
                met.append(self.check(world, lot, Lot(world.chart, other)))
        for sort in itertools.product([True, False], repeat=2):
            self.assertGreater(met.count(sort), 20)

    def test_lots_that_cannot_be(self):
        for lot in impossible_lots():
            for other in impossible_lots():
                self.same([is_stronger(lot, other), are_alike(lot, other), parting_sky(lot, other)], [True, True, None])
            for other in [example(), Lot(CHART)]:
                self.same([self.both(is_stronger, lot, other), self.both(is_stronger, other, lot),
                           self.both(are_alike, lot, other),
                           self.both(are_alike, other, lot)], [True, False, False, False])
                self.same([other.keeps(parting_sky(lot, other)), other.keeps(parting_sky(other, lot))], [True, True])

    def test_by_name(self):
        lot, other = example(), Lot(CHART, [LOW])
        self.same([is_stronger(lot=lot, other=other), are_alike(lot=lot, other=other),
                   other.keeps(parting_sky(lot=lot, other=other))],
                  [True, False, True])

    def test_alike_but_not_equal(self):
        lot = Lot(CHART, [LOW, CALM, CALM.with_gauge("a"), exactly(B, 0), squall_most(B[0], 3)])
        other = Lot(CHART, [at_most(B, 0, gauge="b"), CALM, LOW])
        self.same([lot == other, are_alike(lot, other), is_stronger(lot, other), parting_sky(lot, other)],
                  [False, True, True, None])
        other.put(squall_least(A[0], 1))
        self.same([are_alike(lot, other), is_stronger(lot, other), is_stronger(other, lot)], [False, False, True])
        self.same([lot.keeps(parting_sky(lot, other)), other.keeps(parting_sky(lot, other))], [True, False])

    def test_other_charts(self):
        for call in [is_stronger, are_alike, parting_sky]:
            for lot in [example(), *impossible_lots()]:
                for other in [Lot(OTHER), Lot(OTHER, [at_least(A, 10)]), Lot(WORLDS[0].chart)]:
                    self.refused_by(OtherChart(), call, lot, other)
                    self.refused_by(OtherChart(), call, other, lot)
            self.both(call, example(), Lot(Chart(CHART.rows(), CHART.winds()), [LOW]))

    def test_more_than_sixty(self):
        lot = example().with_sayings([LOW] * 70)
        self.same([are_alike(lot, example()), is_stronger(lot, example()), parting_sky(example(), lot),
                   needless(lot)[0]],
                  [True, True, None, 0])

    def test_regions_in_another_order(self):
        lot, other = Lot(CHART, [at_most(C + D, 3)]), Lot(CHART, [at_most(D + C + D, 3)])
        self.same([are_alike(lot, other), lot == other], [True, True])
