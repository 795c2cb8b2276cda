"""False gauges against all lists of gauges and all skies of small charts."""

from itertools import combinations

from highestsky.errors import NoSky, TooMany, UnknownGauge
from highestsky.gauges import fewest_false, gauges, without_gauges
from highestsky.lots import Lot
from highestsky.papers import is_paper
from highestsky.sayings import at_least, at_most, under
from tests.helpers import any_values
from tests.test_verdicts import CHART, A, B, CALM, D, FIVE, LOW, LotCase, example
from tests.worlds import cases, state

NAMES = ["a", "b", "c", "d"]


def gauges_of(sayings):
    return sorted({saying.gauge for saying in sayings if saying.gauge is not None})


def left(sayings, names):
    """The sayings but those of some gauges."""
    return [saying for saying in sayings if saying.gauge not in names]


def crowd(many, saying=LOW):
    """A list of sayings of so many gauges, not in their order."""
    return [saying.with_gauge(name) for name in "hgfedcbaji"[:many]]


class Gauges(LotCase):
    def test_against_the_words(self):
        for maker, world, sayings in cases(210, 20, most=6, gauges=(None, *NAMES)):
            lot = Lot(world.chart, sayings)
            self.same(self.told(gauges, lot), gauges_of(sayings))
            names = maker.choices(gauges_of(sayings), k=maker.randint(0, 4)) if gauges_of(sayings) else []
            for value in [names, tuple(names), names[::-1] * 2]:
                other = self.told(without_gauges, lot, value)
                self.same([state(other), other is lot], [state(Lot(world.chart, left(sayings, names))), False])

    def test_names(self):
        lot = Lot(CHART, [LOW.with_gauge("buoy"), LOW, CALM.with_gauge("a"), FIVE.with_gauge("buoy"),
                          LOW.with_gauge("aa")])
        self.same([gauges(lot=lot), gauges(Lot(CHART)), gauges(example())], [["a", "aa", "buoy"], [], []])
        self.same(without_gauges(lot=lot, names=["buoy", "aa"]).text(), LOW.text() + "\nby a " + CALM.text() + "\n")

    def test_begun(self):
        lot = Lot(CHART, crowd(3))
        lot.take_back(1)
        lot.take_back(0)
        self.same([lot.begun, without_gauges(lot, []).begun, without_gauges(lot, ["f"]).begun], [3, 1, 1])
        other = without_gauges(lot, [])
        other.put(at_most(A, 0))
        self.same([len(lot), lot.sky.squall(A[0])], [1, 4])

    def test_more_than_sixty(self):
        lot = Lot(CHART).with_sayings([*crowd(8), *[LOW] * 60, FIVE.with_gauge("z")])
        self.same([len(without_gauges(lot, ["z"])), len(without_gauges(lot, gauges(lot))), len(gauges(lot))],
                  [68, 60, 9])

    def test_unknown(self):
        lot = Lot(CHART, [LOW.with_gauge("a"), LOW, CALM.with_gauge("b")])
        for value in [*any_values(), "c", "ab", "A", ["a"], ("a",), LOW, None]:
            self.refused_by(UnknownGauge(value), without_gauges, lot, [value])
            self.refused_by(UnknownGauge(value), without_gauges, lot, ["a", "b", "a", value, "x"])
            self.refused_by(UnknownGauge(value), without_gauges, example(), (value, "a"))
        self.refused_by(UnknownGauge("a"), without_gauges, example(), ["a"])


class Fewest(LotCase):
    def test_against_all_lists(self):
        met = []
        for _, world, sayings in cases(211, 40, most=7, gauges=(None, *NAMES, *NAMES)):
            lot = Lot(world.chart, sayings)
            names = gauges_of(sayings)
            if not world.skies_of(left(sayings, names)):
                with self.assertRaises(NoSky) as caught:
                    fewest_false(lot)
                rest = Lot(world.chart, left(sayings, names))
                self.same([is_paper(rest, caught.exception.grounds), caught.exception.grounds[0]], [True, "none"])
                met.append(None)
                continue
            for many in range(len(names) + 1):
                found = [chosen for chosen in combinations(names, many) if world.skies_of(left(sayings, chosen))]
                if found:
                    self.same(self.told(fewest_false, lot), (many, found))
                    met.append((many, len(found)))
                    break
        for many in [0, 1, 2]:
            self.assertGreater(len([pair for pair in met if pair and pair[0] == many]), 5, many)
        self.assertGreater(len([pair for pair in met if pair and pair[1] > 1]), 5)
        self.assertGreater(met.count(None), 5)

    def test_examples(self):
        self.same([fewest_false(example()), fewest_false(lot=Lot(CHART))], [(0, [()]), (0, [()])])
        lot = Lot(CHART, [at_least(A, 9, gauge="b"), at_most(A, 3, gauge="c"), at_most(A, 4, gauge="a"), at_most(A, 9)])
        self.same(fewest_false(lot), (1, [("b",)]))
        lot.put(at_least(A, 9, gauge="d"))
        self.same(fewest_false(lot), (2, [("a", "c"), ("b", "d")]))
        lot.put(at_most(B, 0, gauge="e"), at_least(B, 1, gauge="a"))
        self.same(fewest_false(lot), (2, [("a", "c")]))
        lot.put(at_least(B, 1, gauge="b"))
        self.same(fewest_false(lot), (3, [("a", "b", "c"), ("a", "b", "d"), ("a", "c", "e"), ("b", "d", "e")]))

    def test_eight_and_nine(self):
        wrong = [at_least(A, 10, gauge=name) for name in "abcdefgh"]
        self.same(fewest_false(Lot(CHART, wrong)), (8, [tuple("abcdefgh")]))
        self.same(fewest_false(Lot(CHART, crowd(8))), (0, [()]))
        for many in [9, 10]:
            for more in [[], [at_least(A, 10)], [under(A, A, -1)]]:
                self.refused_by(TooMany(8), fewest_false, Lot(CHART, [*crowd(many), *more]))

    def test_no_sky(self):
        lot = Lot(CHART, [LOW.with_gauge("a"), at_least(D, 9), CALM, at_most(B, 9, gauge="b"), at_most(B, 3)])
        before = state(lot)
        with self.assertRaises(NoSky) as caught:
            fewest_false(lot)
        rest = Lot(CHART, [at_least(D, 9), CALM, at_most(B, 3)])
        self.same([caught.exception.grounds[0], is_paper(rest, caught.exception.grounds), caught.exception.code],
                  ["none", True, "NoSky"])
        self.same(state(lot), before)
