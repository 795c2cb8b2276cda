"""Verdicts against all skies of small charts, and the skies that show them."""

import random

from highestsky.charts import Chart
from highestsky.errors import InvalidSaying, NoSky, OffChart, TooMany
from highestsky.lots import Lot
from highestsky.papers import is_paper
from highestsky.sayings import (
    KINDS, at_least, at_most, exactly, if_then, level, squall_least, squall_most, under,
)
from highestsky.skies import Sky
from highestsky.verdicts import can_be_with, escape, kept_and_broken, one_is_sure, verdict
from tests.helpers import Case, any_values, largest_chart
from tests.worlds import PLAIN, cases, state

CHART = Chart([[0, 1]], [(0, 5, 2, 5, 3)])
A, B, C, D = [(0, 0, 0)], [(0, 0, 1)], [(1, 0, 0)], [(1, 0, 1)]
LOW, CALM, FIVE = at_most(C, 4), squall_most(D[0], 0), at_least(D, 5)
OFF = at_most([(2, 0, 0)], 4)


def example():
    return Lot(CHART, [LOW, CALM, FIVE])


def impossible_lots():
    return [Lot(CHART, [LOW, CALM, FIVE, at_most(B, 5)]), Lot(CHART, [at_least(A, 10)]), Lot(CHART, [under(A, A, -3)]),
            Lot(CHART, [LOW, under(A, B, 0), under(B, A, -1), FIVE])]


class LotCase(Case):
    """Cases that watch whether a lot stays as it is."""

    def told(self, call, lot, *args, **named):
        before = state(lot)
        answer = call(lot, *args, **named)
        self.same(state(lot), before)
        return answer

    def refused_by(self, wanted, call, lot, *args, **named):
        before = state(lot)
        self.refused(wanted, call, lot, *args, **named)
        self.same(state(lot), before)

    def no_sky(self, call, lot, *args, **named):
        """Checks that a call raises NoSky with a right paper of the second kind."""
        before = state(lot)
        with self.assertRaises(NoSky) as caught:
            call(lot, *args, **named)
        grounds = caught.exception.grounds
        self.same([caught.exception.code, type(grounds), grounds[0], is_paper(lot, grounds)],
                  ["NoSky", tuple, "none", True])
        self.same(state(lot), before)

    def raises_without_a_sky(self, call, *args, **named):
        for lot in impossible_lots():
            self.no_sky(call, lot, *args, **named)

    def raises_for_one_saying(self, call):
        """Checks the errors of a call with a lot and one saying, ahead of all others."""
        for lot in [example(), *impossible_lots()]:
            for value in [*any_values(), LOW.text(), [LOW], (LOW,), lot, Sky(CHART), CHART]:
                self.refused_by(InvalidSaying(0), call, lot, value)
            self.refused_by(OffChart((2, 0, 0)), call, lot, OFF)
            self.refused_by(OffChart((0, 3, 0)), call, lot, under([(8, 5, 5), (0, 3, 0)], [(0, 0, 2)], 1))
            self.refused_by(OffChart((0, 0, 2)), call, lot, if_then(A, 1, [(0, 0, 2), (8, 5, 5)], 1))


def verdict_of(world, found, saying):
    kept = [world.keeps(at, saying) for at in found]
    return "sure" if all(kept) else "open" if any(kept) else "never"


class Verdicts(LotCase):
    def check(self, world, lot, found, saying):
        wanted = verdict_of(world, found, saying)
        self.same(self.told(verdict, lot, saying), wanted)
        self.same(self.told(can_be_with, lot, saying), wanted != "never")
        kept, broken = self.told(kept_and_broken, lot, saying)
        self.same([kept is None, broken is None], [wanted == "never", wanted == "sure"])
        if kept is not None:
            self.same([lot.keeps(kept), saying.kept_by(kept), world.index_of(kept) in found], [True, True, True])
        if broken is not None:
            self.same([lot.keeps(broken), saying.kept_by(broken), world.index_of(broken) in found], [True, False, True])
        return wanted

    def test_each_kind(self):
        met = {}
        for maker, world, sayings in cases(60, 25, most=4):
            lot, found = Lot(world.chart, sayings), world.skies_of(sayings)
            if found:
                for kind in KINDS:
                    saying = world.saying(maker, [kind])
                    wanted = self.check(world, lot, found, saying)
                    met[kind, wanted] = met.get((kind, wanted), 0) + 1
        for kind in KINDS:
            for word in ["sure", "never", "open"]:
                self.assertGreater(met.get((kind, word), 0), 0, (kind, word))

    def test_parts_of_the_lot(self):
        for maker, world, sayings in cases(61, 15, most=4):
            lot, found = Lot(world.chart, sayings), world.skies_of(sayings)
            if found:
                for saying in lot.sayings() + lot.parts():
                    self.same(self.check(world, lot, found, saying.with_gauge("z")), "sure")
                    for opposite in saying.opposites():
                        for other in opposite:
                            self.check(world, lot, found, other)

    def test_examples(self):
        lot = example()
        self.same([verdict(lot, at_least(B, 6)), verdict(lot, at_most(C, 2)), verdict(lot, at_most(C, 3))],
                  ["sure", "never", "open"])
        self.same(verdict(lot=lot, saying=at_least(B, 7)), "open")
        kept, broken = kept_and_broken(lot=lot, saying=at_most(C, 3))
        self.same([kept.region_height(C), broken.region_height(C) > 3, lot.keeps(kept), lot.keeps(broken)],
                  [3, True, True, True])
        self.same(kept_and_broken(lot, at_least(B, 6))[1], None)
        self.same(kept_and_broken(lot, at_most(C, 2))[0], None)

    def test_a_lot_without_sayings(self):
        lot = Lot(CHART)
        for saying, word in [(at_most(A, 9), "sure"), (at_most(A, 8), "open"), (at_least(A, 1), "open"),
                             (at_least(A, 10), "never"),
                             (exactly(A, 0), "open"), (exactly(A, 10), "never"), (under(A, A, 0), "sure"),
                             (under(A, A, -1), "never"),
                             (level(A, A, 0), "sure"), (level(A, A, 1), "never"), (if_then(A, 1, A, 1), "sure"),
                             (if_then(A, 2, A, 3), "open"), (if_then(A, 10, A, 100), "sure"),
                             (squall_most(A[0], 9), "sure"),
                             (squall_least(A[0], 10), "never"), (squall_least(A[0], 9), "open")]:
            self.same(self.told(verdict, lot, saying), word)

    def test_sixty_sayings(self):
        lot = Lot(CHART, [LOW, CALM, FIVE] * 20)
        self.same([verdict(lot, at_least(B, 6)), verdict(lot, at_most(C, 2)), verdict(lot, at_most(C, 3))],
                  ["sure", "never", "open"])
        self.same([can_be_with(lot, at_most(C, 3)), can_be_with(lot, at_most(C, 2)), can_be_with(lot)],
                  [True, False, True])
        self.same([one_is_sure(lot, at_least(B, 6)), escape(lot, at_most(C, 2)) is None, state(lot)[2]],
                  [True, False, 1])
        more = lot.with_sayings([LOW] * 5)
        self.same([verdict(more, at_most(C, 3)), can_be_with(more, *[LOW] * 70)], ["open", True])

    def test_the_largest_chart(self):
        chart = largest_chart()
        maker = random.Random(62)
        regions = [maker.sample(chart.places(), 40) for _ in range(60)]
        lot = Lot(chart, [at_most(region, 50 + at % 40) for at, region in enumerate(regions)])
        for saying in [at_most(regions[0], 50), level(regions[0], regions[1], -1),
                       if_then(regions[2], 30, regions[3], 40)]:
            word = verdict(lot, saying)
            kept, broken = kept_and_broken(lot, saying)
            self.same(word, "never" if kept is None else "sure" if broken is None else "open")
            self.same([sky is None or lot.keeps(sky) for sky in [kept, broken]], [True, True])

    def test_errors(self):
        for call in [verdict, kept_and_broken]:
            self.raises_for_one_saying(call)
            self.raises_without_a_sky(call, LOW)
            self.raises_without_a_sky(call, saying=at_least(A, 100))


class CanBeWith(LotCase):
    def test_several_sayings(self):
        for maker, world, sayings in cases(63, 20, most=3):
            lot, others = Lot(world.chart, sayings), world.sayings(maker, 4)
            self.same(self.told(can_be_with, lot, *others), bool(world.skies_of([*sayings, *others])))
            self.same(self.told(can_be_with, lot), bool(world.skies_of(sayings)))

    def test_errors(self):
        for lot in [example(), *impossible_lots()]:
            for value in [*any_values(), [LOW], LOW.text()]:
                self.refused_by(InvalidSaying(0), can_be_with, lot, value)
                self.refused_by(InvalidSaying(2), can_be_with, lot, OFF, LOW, value, None)
            self.refused_by(OffChart((2, 0, 0)), can_be_with, lot, LOW, OFF, at_most([(0, 3, 0)], 1))
            self.refused_by(InvalidSaying(70), can_be_with, lot, *[OFF] * 70, None)

    def test_lots_that_cannot_be(self):
        for lot in impossible_lots():
            self.same([can_be_with(lot), can_be_with(lot, LOW), can_be_with(lot, *[LOW] * 100)], [False] * 3)


class Several(LotCase):
    def check(self, world, lot, found, several):
        wanted = [at for at in found if not any(world.keeps(at, saying) for saying in several)]
        sky = self.told(escape, lot, *several)
        self.same([sky is None, self.told(one_is_sure, lot, *several)], [not wanted, not wanted])
        if sky is not None:
            self.same([lot.keeps(sky), world.index_of(sky) in wanted], [True, True])
        return not wanted

    def test_against_all_skies(self):
        met = {}
        for maker, world, sayings in cases(64, 12, most=3):
            lot, found = Lot(world.chart, sayings), world.skies_of(sayings)
            if found:
                for many in range(7):
                    sure = self.check(world, lot, found, [world.saying(maker) for _ in range(many)])
                    met[many, sure] = met.get((many, sure), 0) + 1
        self.assertEqual([many for many in range(7) if (many, False) not in met], [])
        self.assertEqual([many for many in range(1, 7) if (many, True) not in met], [])
        self.assertNotIn((0, True), met)

    def test_sayings_that_are_hard_to_escape(self):
        for maker, world, sayings in cases(65, 12, most=2):
            lot, found = Lot(world.chart, sayings), world.skies_of(sayings)
            if found:
                for many in [2, 3, 4, 6]:
                    self.check(world, lot, found, [world.saying(maker, ["level", "exactly",
                                                                        "ifthen"]) for _ in range(many)])

    def test_without_sayings(self):
        lot = example()
        self.same([lot.keeps(escape(lot)), one_is_sure(lot), one_is_sure(Lot(CHART))], [True, False, False])
        self.raises_without_a_sky(escape)
        self.raises_without_a_sky(one_is_sure)

    def test_floors_that_are_sure_together(self):
        lot = Lot(CHART, [at_least(C + D, 5)])
        self.same([verdict(lot, at_least(C, 5)), verdict(lot, at_least(D, 5)),
                   one_is_sure(lot, at_least(C, 5), at_least(D, 5))],
                  ["open", "open", True])
        self.same([escape(lot, at_least(C, 5), at_least(D, 5)), escape(lot, at_least(C, 5)) is None], [None, False])

    def test_a_saying_with_two_opposites(self):
        lot = Lot(CHART, [at_least(A, 3)])
        self.same(escape(lot, exactly(A, 3)).region_height(A) > 3, True)
        self.same(escape(lot, *[exactly(A, number) for number in [9, 8, 7, 6, 5, 3]]).region_height(A), 4)
        lot.put(at_most(A, 8))
        self.same(one_is_sure(lot, *[exactly(A, number) for number in [8, 7, 6, 5, 4, 3]]), True)
        self.same(one_is_sure(lot, *[exactly(A, number) for number in [8, 7, 6, 5, 4, 9]]), False)

    def test_fact_about_limits(self):
        # One of several limits is sure exactly if one of them is sure by itself.
        for maker, world, sayings in cases(66, 12, most=4):
            lot = Lot(world.chart, sayings)
            if lot.can_be:
                several = [world.saying(maker, ["atmost", "squallmost"]) for _ in range(4)]
                self.same(one_is_sure(lot, *several), "sure" in [verdict(lot, saying) for saying in several])

    def test_errors(self):
        for call in [escape, one_is_sure]:
            self.raises_for_one_saying(call)
            for lot in [example(), *impossible_lots()]:
                self.refused_by(TooMany(6), call, lot, *[LOW] * 7)
                self.refused_by(TooMany(6), call, lot, *[LOW] * 100)
                self.refused_by(InvalidSaying(6), call, lot, *[OFF] * 6, None)
                self.refused_by(InvalidSaying(7), call, lot, *[LOW] * 7, 5)
                self.refused_by(OffChart((2, 0, 0)), call, lot, *[LOW] * 7, OFF)
            self.raises_without_a_sky(call, *[LOW] * 6)
            self.raises_without_a_sky(call, at_least(A, 100))
        self.same(one_is_sure(example(), *[LOW] * 6), True)


class Facts(LotCase):
    def test_a_sure_saying_leaves_the_skies(self):
        for maker, world, sayings in cases(67, 15, most=3):
            lot, saying = Lot(world.chart, sayings), world.saying(maker)
            if lot.can_be and verdict(lot, saying) == "sure":
                self.same(world.skies_of([*sayings, saying]) == world.skies_of(sayings), True)

    def test_plain_lots(self):
        for maker, world, sayings in cases(68, 10, most=3, kinds=PLAIN):
            lot = Lot(world.chart, sayings)
            if lot.can_be:
                region = world.region(maker)
                words = [verdict(lot, at_most(region, number)) for number in range(world.chart.top + 1)]
                self.same([word for word, ahead in zip(words[1:], words) if ahead == "sure" and word != "sure"], [])
