"""Doubts against all lists of gauges and all skies of small charts."""

import random
from itertools import combinations

from highestsky.charts import Chart
from highestsky.doubts import Doubt
from highestsky.errors import (
    InvalidNumber, InvalidRegion, InvalidSaying, NoCase, OffChart, TooMany, UnknownCase, UnknownGauge, UnknownSaying,
)
from highestsky.forecasts import height_span
from highestsky.lots import Lot
from highestsky.sayings import KINDS, at_least, at_most, exactly, level, squall_least
from highestsky.skies import Sky
from highestsky.verdicts import verdict
from tests.helpers import NO_REGIONS, any_values, wrong_places
from tests.test_gauges import NAMES, crowd, gauges_of, left
from tests.test_verdicts import CHART, A, C, CALM, D, FIVE, LOW, OFF, LotCase, example, verdict_of
from tests.worlds import WORLDS, cases, state

NO_ALLOWED = [-1, 3, 4, 10 ** 6, *[value for value in any_values() if type(value) is not int], "1", [1], (1,)]
WORDS = ["sure", "never", "open"]


def cases_of(world, sayings, allowed):
    """A dict from the cases, ascending, to the indexes of their skies, by the words of [40]."""
    names = gauges_of(sayings)
    found = {chosen: world.skies_of(left(sayings, chosen)) for chosen in combinations(names, min(allowed, len(names)))}
    return {chosen: skies for chosen, skies in found.items() if skies}


def shown(doubt):
    """All that is to be the same behind a call that changes nothing."""
    return [doubt.allowed, doubt.can_be, doubt.cases(), state(doubt.lot()), len(doubt), repr(doubt),
            [state(doubt.case_lot(names)) for names in doubt.cases()]]


def impossible():
    return [Doubt(Lot(CHART, [at_least(A, 10), LOW.with_gauge("a")])), Doubt(Lot(CHART, [at_least(A, 10)]), allowed=2),
            Doubt(Lot(CHART, [at_most(A, 1, gauge="a"), at_least(A, 2, gauge="b")]), allowed=0),
            Doubt(Lot(CHART, [at_least(A, 10, gauge=name) for name in "abc"]), allowed=2)]


def torn():
    """A doubt in which one of two gauges must be false, and a third one may be."""
    return Doubt(Lot(CHART, [LOW.with_gauge("a"), CALM, at_least(C, 6, gauge="b"), at_most(A, 4, gauge="c")]))


class DoubtCase(LotCase):
    def refused_doubt(self, wanted, doubt, call, *args, **named):
        before = shown(doubt)
        self.refused(wanted, call, *args, **named)
        self.same(shown(doubt), before)


class AllCases(DoubtCase):
    def check(self, maker, world, sayings, doubt, allowed):
        wanted = cases_of(world, sayings, allowed)
        skies = sorted({at for found in wanted.values() for at in found})
        self.same([doubt.cases(), len(doubt), doubt.can_be, bool(doubt), doubt.allowed, repr(doubt)],
                  [list(wanted), len(wanted), bool(wanted), True, allowed, f"Doubt({len(wanted)} cases)"])
        self.same(doubt.lot() == Lot(world.chart, sayings), True)
        for names, found in wanted.items():
            lot = Lot(world.chart, left(sayings, names))
            self.same([state(doubt.case_lot(names)), doubt.case_sky(names) == lot.sky], [state(lot), True])
        if not wanted:
            self.check_none(doubt, world, sayings)
            return None
        # The skies of the doubt are those that are possible without some list of at most so many gauges.
        names = gauges_of(sayings)
        without = {at for many in range(allowed + 1) for chosen in combinations(names, many)
                   for at in world.skies_of(left(sayings, chosen))}
        self.same(skies, sorted(without))
        self.same(doubt.worst_heights(),
                  {place: max(world.heights[at][place] for at in skies) for place in world.places})
        for _ in range(2):
            region = world.region(maker)
            heights = [world.height(at, region) for at in skies]
            self.same([doubt.height_span(region), doubt.height_span(tuple(region))], [(min(heights), max(heights))] * 2)
        for gauge in names:
            said = [saying for saying in sayings if saying.gauge == gauge]
            kept = [at for at in skies if all(world.keeps(at, saying) for saying in said)]
            self.same(doubt.surely_false(gauge), not kept)
        saying = world.saying(maker)
        self.same(doubt.verdict(saying), verdict_of(world, skies, saying))
        return (len(wanted), verdict_of(world, skies, saying), [doubt.surely_false(gauge) for gauge in names])

    def check_none(self, doubt, world, sayings):
        saying = world.saying(random.Random(1))
        self.refused(NoCase(), doubt.verdict, saying)
        self.refused(NoCase(), doubt.height_span, [world.places[0]])
        self.refused(NoCase(), doubt.worst_heights)
        for gauge in gauges_of(sayings):
            self.refused(NoCase(), doubt.surely_false, gauge)

    def test_all_numbers(self):
        met = []
        for maker, world, sayings in cases(220, 14, most=6, gauges=(None, *NAMES)):
            lot = Lot(world.chart, sayings)
            for allowed in range(3):
                doubt = self.told(Doubt, lot, allowed=allowed)
                met.append(self.check(maker, world, sayings, doubt, allowed))
            self.same(shown(Doubt(lot)), shown(Doubt(lot, allowed=1)))
        for word in WORDS:
            self.assertGreater(len([told for told in met if told and told[1] == word]), 20)
        self.assertGreater(len([told for told in met if told and True in told[2]]), 20)
        self.assertGreater(len([told for told in met if told and False in told[2] and told[0] > 2]), 20)
        self.assertGreater(met.count(None), 20)

    def test_changed(self):
        for maker, world, sayings in cases(221, 6, most=5, gauges=(None, *NAMES)):
            doubt = Doubt(Lot(world.chart, sayings), allowed=0)
            for _ in range(4):
                allowed = maker.randint(0, 2)
                if maker.random() < 0.5:
                    self.assertIsNone(doubt.change(allowed))
                else:
                    doubt.allowed = allowed
                self.check(maker, world, sayings, doubt, allowed)

    def test_put_and_taken_back(self):
        for maker, world, sayings in cases(222, 5, most=3, gauges=(None, *NAMES)):
            doubt, said = Doubt(Lot(world.chart, sayings), allowed=maker.randint(0, 2)), list(sayings)
            for _ in range(5):
                if said and maker.random() < 0.4:
                    at = maker.randrange(len(said))
                    said.pop(at)
                    self.assertIsNone(doubt.take_back(at))
                else:
                    more = world.sayings(maker, 2, gauges=(None, *NAMES))
                    said += more
                    self.assertIsNone(doubt.put(*more))
                self.check(maker, world, said, doubt, doubt.allowed)

    def test_no_gauge_is_allowed(self):
        # Then all is that of the lot.
        for maker, world, sayings in cases(223, 8, most=4, gauges=(None, *NAMES)):
            lot = Lot(world.chart, sayings)
            doubt = Doubt(lot, allowed=0)
            self.same([doubt.can_be, doubt.cases()], [lot.can_be, [()] if lot.can_be else []])
            if lot.can_be:
                region, saying = world.region(maker), world.saying(maker)
                self.same([doubt.verdict(saying), doubt.height_span(region), doubt.case_sky(()) == lot.sky,
                           doubt.worst_heights()],
                          [verdict(lot, saying), height_span(lot, region), True, lot.sky.heights()])
                self.same(state(doubt.case_lot(())), state(lot))

    def test_greater_numbers(self):
        met = 0
        for maker, world, sayings in cases(224, 12, most=5, gauges=NAMES):
            doubts = [Doubt(Lot(world.chart, sayings), allowed=allowed) for allowed in range(3)]
            doubts = [doubt for doubt in doubts if doubt.can_be]
            for less, more in zip(doubts, doubts[1:]):
                region, saying = world.region(maker), world.saying(maker)
                if more.verdict(saying) != "open":
                    self.same(less.verdict(saying), more.verdict(saying))
                    met += 1
                spans = [less.height_span(region), more.height_span(region)]
                self.same([spans[1][0] <= spans[0][0], spans[1][1] >= spans[0][1]], [True, True])
        self.assertGreater(met, 20)


class Examples(DoubtCase):
    def test_one_of_two(self):
        doubt = torn()
        self.same([doubt.cases(), doubt.can_be, len(doubt), repr(doubt)], [[("a",), ("b",)], True, 2, "Doubt(2 cases)"])
        self.same([doubt.surely_false(gauge) for gauge in "abc"], [False, False, False])
        self.same([doubt.height_span(D), doubt.height_span(C), doubt.worst_heights()[C[0]]], [(0, 8), (0, 9), 9])
        self.same([doubt.verdict(at_most(D, 8)), doubt.verdict(at_least(C, 5)), doubt.verdict(at_most(D, 7)),
                   doubt.verdict(saying=at_least(D, 9))], ["sure", "open", "open", "never"])
        doubt.allowed = 2
        self.same(doubt.cases(), [("a", "b"), ("a", "c"), ("b", "c")])
        doubt.allowed = 0
        self.same([doubt.cases(), doubt.can_be, bool(doubt), len(doubt), repr(doubt)],
                  [[], False, True, 0, "Doubt(0 cases)"])
        doubt.change(allowed=1)
        doubt.put(at_most(C, 5))
        self.same([doubt.cases(), doubt.surely_false("b"), doubt.surely_false(gauge="a")], [[("b",)], True, False])

    def test_sure_and_never_in_cases_are_open(self):
        doubt = Doubt(Lot(CHART, [at_most(A, 1, gauge="a"), at_least(A, 5, gauge="b")]))
        self.same([doubt.cases(), doubt.verdict(at_most(A, 3)), doubt.verdict(exactly(A, 3))],
                  [[("a",), ("b",)], "open", "never"])
        self.same([doubt.surely_false("a"), doubt.surely_false("b")], [False, False])

    def test_fewer_gauges_than_allowed(self):
        for sayings, wanted in [([], [()]), ([LOW], [()]), ([LOW.with_gauge("a")], [("a",)])]:
            for allowed in [1, 2]:
                self.same(Doubt(Lot(CHART, sayings), allowed=allowed).cases(), wanted)
        self.same(Doubt(Lot(CHART, crowd(2)), allowed=2).cases(), [("g", "h")])
        self.same(Doubt(Lot(CHART, [LOW.with_gauge("a"), at_least(A, 10)]), allowed=2).cases(), [])

    def test_eight_gauges(self):
        doubt = Doubt(lot=Lot(CHART, crowd(8)), allowed=2)
        self.same([len(doubt), doubt.cases()[0], doubt.cases()[-1]], [28, ("a", "b"), ("g", "h")])
        for value in [*NO_ALLOWED]:
            for many in [8, 9]:
                self.refused(InvalidNumber(value), Doubt, Lot(CHART, crowd(many)), allowed=value)
        for allowed in range(3):
            for many in [9, 10]:
                self.refused_by(TooMany(8), Doubt, Lot(CHART, crowd(many)), allowed=allowed)
                self.refused_by(TooMany(8), Doubt, Lot(CHART, [*crowd(many), at_least(A, 10)]), allowed=allowed)

    def test_its_own_lot(self):
        lot = Lot(CHART, crowd(2))
        lot.take_back(0)
        doubt = Doubt(lot)
        before = shown(doubt)
        lot.put(FIVE)
        told = doubt.lot()
        self.same([shown(doubt), told.begun], [before, 2])
        told.put(CALM)
        doubt.cases().clear()
        doubt.worst_heights().clear()
        doubt.case_lot(("g",)).put(at_least(A, 10))
        self.same(shown(doubt), before)
        doubt.put(FIVE)
        self.same([doubt.lot().begun, [doubt.case_lot(names).begun for names in doubt.cases()]], [2, [1]])
        doubt.take_back(0)
        doubt.take_back(at=0)
        self.same([doubt.lot().begun, doubt.cases(), doubt.case_lot(()).begun, len(doubt.lot())], [4, [()], 1, 0])

    def test_twins(self):
        doubt = torn()
        twin = doubt.twin()
        self.same([shown(twin), type(twin)], [shown(doubt), Doubt])
        before = shown(doubt)
        twin.put(at_most(C, 5))
        twin.change(2)
        self.same([shown(doubt), shown(twin) == before], [before, False])
        before = shown(twin)
        doubt.take_back(0)
        self.same(shown(twin), before)

    def test_more_than_sixty(self):
        doubt = Doubt(Lot(CHART, [*crowd(8), *[LOW] * 51]))
        doubt.put(FIVE)
        self.refused_doubt(TooMany(60), doubt, doubt.put, LOW)
        doubt.put()
        more = Doubt(doubt.lot().with_sayings([CALM.with_gauge("a")]))
        self.same([len(more.lot()), len(more.case_lot(("a",))), len(more.case_lot(("b",)))], [61, 59, 60])
        self.refused_doubt(TooMany(60), more, more.put, LOW)
        more.put()
        more.take_back(60)
        self.same(len(more.lot()), 60)

    def test_places_ascend(self):
        for world in WORLDS:
            self.same(list(Doubt(Lot(world.chart)).worst_heights()), world.places)


class Errors(DoubtCase):
    def test_changes(self):
        for doubt in [torn(), *impossible()]:
            for value in NO_ALLOWED:
                self.refused_doubt(InvalidNumber(value), doubt, doubt.change, value)
                self.refused_doubt(InvalidNumber(value), doubt, setattr, doubt, "allowed", value)

    def test_putting(self):
        full = [LOW] * 52 + crowd(7)
        for doubt in [torn(), Doubt(Lot(CHART, crowd(8))), Doubt(Lot(CHART, full), allowed=2), *impossible()]:
            for value in [*any_values(), LOW.text(), [LOW], doubt]:
                self.refused_doubt(InvalidSaying(0), doubt, doubt.put, value)
                self.refused_doubt(InvalidSaying(2), doubt, doubt.put, *[OFF, LOW, value, None], *crowd(9), *[LOW] * 60)
            self.refused_doubt(OffChart((2, 0, 0)), doubt, doubt.put, LOW, OFF, at_most([(3, 0, 0)], 1), *crowd(9),
                               *[LOW] * 60)
            self.refused_doubt(TooMany(60), doubt, doubt.put, *crowd(9), *[LOW] * 60)
            if len(doubt.lot()) < 50:
                self.refused_doubt(TooMany(8), doubt, doubt.put, *crowd(9))
        doubt = Doubt(Lot(CHART, crowd(8)))
        self.refused_doubt(TooMany(8), doubt, doubt.put, LOW, LOW.with_gauge("z"))
        doubt.put(LOW, LOW.with_gauge("a"))
        doubt.take_back(0)
        doubt.put(LOW.with_gauge("z"))
        self.same(len(doubt.cases()), 8)
        doubt = Doubt(Lot(CHART, full))
        self.refused_doubt(TooMany(60), doubt, doubt.put, LOW.with_gauge("y"), LOW.with_gauge("z"))
        doubt.put(LOW.with_gauge("z"))
        self.refused_doubt(TooMany(60), doubt, doubt.put, LOW.with_gauge("y"))

    def test_taking_back(self):
        for doubt in [torn(), *impossible()]:
            many = len(doubt.lot())
            for value in [-1, many, many + 1, *[value for value in any_values() if type(value) is not int], "0", [0]]:
                self.refused_doubt(UnknownSaying(value), doubt, doubt.take_back, value)

    def test_cases(self):
        for doubt in [torn(), *impossible()]:
            for value in [*any_values(), "a", ["a"], ("c",), ("a", "b"), ("b", "a"), ("a", "a"), [("a",)], ("z",),
                          doubt, (Sky(CHART),), (("a",),), {"a": 1}]:
                if value not in doubt.cases():
                    self.refused_doubt(UnknownCase(value), doubt, doubt.case_lot, value)
                    self.refused_doubt(UnknownCase(value), doubt, doubt.case_sky, value)
        two = Doubt(Lot(CHART, crowd(3)), allowed=2)
        self.same(two.case_lot(names=("f", "g")).text(), "by h atmost 4 1.0.0\n")
        self.same(two.case_sky(names=("f", "g")).squall(A[0]), 4)
        for value in [("g", "f"), ["f", "g"], ("f",), (), ("f", "g", "h")]:
            self.refused_doubt(UnknownCase(value), two, two.case_lot, value)

    def test_sayings_and_regions(self):
        for doubt in [torn(), *impossible()]:
            for value in [*any_values(), LOW.text(), [LOW], doubt]:
                self.refused_doubt(InvalidSaying(0), doubt, doubt.verdict, value)
            self.refused_doubt(OffChart((2, 0, 0)), doubt, doubt.verdict, OFF)
            self.refused_doubt(OffChart((0, 0, 2)), doubt, doubt.verdict, level(A, [(0, 0, 2)], 1))
            for value in NO_REGIONS:
                self.refused_doubt(InvalidRegion(-1), doubt, doubt.height_span, value)
            for value in wrong_places(CHART)[:20]:
                self.refused_doubt(InvalidRegion(1), doubt, doubt.height_span, (A[0], value, None))

    def test_gauges(self):
        for doubt in [torn(), *impossible()]:
            for value in [*any_values(), "x", ["a"], ("a",), LOW, "A"]:
                self.refused_doubt(UnknownGauge(value), doubt, doubt.surely_false, value)
        self.refused(UnknownGauge("a"), Doubt(Lot(CHART, [LOW])).surely_false, "a")

    def test_no_case(self):
        for doubt in impossible():
            self.refused_doubt(NoCase(), doubt, doubt.verdict, LOW)
            self.refused_doubt(NoCase(), doubt, doubt.verdict, squall_least(A[0], 100))
            self.refused_doubt(NoCase(), doubt, doubt.height_span, A)
            self.refused_doubt(NoCase(), doubt, doubt.worst_heights)
            for gauge in gauges_of(doubt.lot().sayings()):
                self.refused_doubt(NoCase(), doubt, doubt.surely_false, gauge)

    def test_kinds(self):
        doubt = Doubt(example())
        for kind in KINDS:
            maker = random.Random(kind)
            world = WORLDS[3]
            for _ in range(5):
                saying = world.saying(maker, [kind])
                self.same(doubt.verdict(saying), verdict(example(), saying))
        self.same(Doubt(Lot(Chart([[0]]))).height_span(A), (0, 9))
