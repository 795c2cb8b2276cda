"""Certificates of each verdict: right ones, and ones that are wrong in one thing."""

import itertools

from highestsky.certificates import certificate, is_certificate
from highestsky.charts import Chart
from highestsky.lots import Lot
from highestsky.papers import is_paper
from highestsky.sayings import KINDS, at_least, at_most, exactly, if_then, level, squall_most, under
from highestsky.skies import Sky
from highestsky.verdicts import verdict
from tests.helpers import any_values
from tests.test_verdicts import CHART, A, B, C, CALM, D, FIVE, LOW, LotCase, example, impossible_lots
from tests.worlds import cases

OTHER = Chart([[0, 1]], [(0, 5, 2, 5, 3)], top=8)


def is_right(lot, saying, value):
    """Whether a pair of a word and a tuple of papers is right by the words of [25]."""
    word, papers = value
    if word == "open":
        return (len(papers) == 2 and all(is_paper(lot, paper) and paper[0] == "sky" for paper in papers)
                and saying.kept_by(papers[0][1]) and not saying.kept_by(papers[1][1]))
    several = {"sure": saying.opposites(), "never": [(saying,)]}[word]
    if len(papers) != len(several):
        return False
    return all(is_paper(lot.with_sayings(put), paper) and paper[0] == "none" for put, paper in zip(several, papers))


class CertificateCase(LotCase):
    def check(self, lot, saying, value):
        wanted = is_right(lot, saying, value)
        self.same(self.told(is_certificate, lot, saying, value), wanted)
        return wanted

    def wrong(self, lot, saying, *values):
        for value in values:
            self.same(self.told(is_certificate, lot, saying, value), False)


class Told(CertificateCase):
    def test_each_verdict(self):
        met = {}
        for maker, world, sayings in cases(70, 20, most=4):
            lot = Lot(world.chart, sayings)
            if lot.can_be:
                for kind in KINDS:
                    saying = world.saying(maker, [kind])
                    found = self.told(certificate, lot, saying)
                    word, papers = found
                    self.same([type(found), type(papers), word], [tuple, tuple, verdict(lot, saying)])
                    self.assertTrue(self.check(lot, saying, found))
                    for other in ["sure", "never", "open"]:
                        self.same(self.check(lot, saying, (other, papers)), other == word)
                    met[kind, word] = met.get((kind, word), 0) + 1
        self.assertEqual(sorted(met), sorted(itertools.product(KINDS, ["never", "open", "sure"])))

    def test_forms(self):
        lot = example()
        word, papers = certificate(lot, at_most(C, 3))
        self.same([word, [paper[0] for paper in papers], at_most(C, 3).kept_by(papers[0][1])],
                  ["open", ["sky", "sky"], True])
        word, papers = certificate(lot=lot, saying=at_most(C, 2))
        self.same([word, [paper[0] for paper in papers]], ["never", ["none"]])
        word, papers = certificate(lot, at_least(B, 6))
        self.same([word, [paper[0] for paper in papers]], ["sure", ["none"]])
        word, papers = certificate(Lot(CHART, [exactly(C, 4)]), exactly(C, 4))
        self.same([word, [paper[0] for paper in papers]], ["sure", ["none", "none"]])

    def test_sixty_sayings(self):
        lot = Lot(CHART, [LOW, CALM, FIVE] * 20)
        for saying, word in [(at_least(B, 6), "sure"), (at_most(C, 2), "never"), (at_most(C, 3), "open"),
                             (if_then(A, 1, B, 6), "sure")]:
            found = self.told(certificate, lot, saying)
            self.same([found[0], self.check(lot, saying, found)], [word, True])

    def test_errors(self):
        self.raises_for_one_saying(certificate)
        self.raises_for_one_saying(lambda lot, saying: is_certificate(lot, saying, None))
        self.raises_for_one_saying(lambda lot, saying: is_certificate(lot, saying, ("open", ())))
        self.raises_without_a_sky(certificate, LOW)
        self.raises_without_a_sky(certificate, saying=at_least(A, 100))


class Bent(CertificateCase):
    def test_open(self):
        lot, saying = example(), at_most(C, 3)
        word, (kept, broken) = certificate(lot, saying)
        self.same(is_certificate(lot=lot, saying=saying, value=(word, (kept, broken))), True)
        out = ("sky", Sky(CHART))
        none = certificate(lot, at_most(C, 2))[1][0]
        self.wrong(lot, saying, ("open", (broken, kept)), ("open", (kept, kept)), ("open", (broken, broken)),
                   ("open", (kept,)),
                   ("open", (broken,)), ("open", ()), ("open", (kept, broken, broken)), ("open", [kept, broken]),
                   ["open", (kept, broken)], ("open", kept, broken), ("sure", (kept, broken)),
                   ("never", (kept, broken)),
                   ("open", (kept, list(broken))), ("open", (list(kept), broken)), ("open", (kept, out)),
                   ("open", (out, broken)),
                   ("open", (kept, none)), ("open", (none, broken)), ("open", (kept[1], broken[1])),
                   ("Open", (kept, broken)),
                   ("open", (kept, ("sky", Sky(OTHER, broken[1].squalls())))), ("open", (("sky", Sky(OTHER)), broken)),
                   ("open", (kept, None)), ("open", None), ("open",), ("open", (kept, broken), ()),
                   (("open", (kept, broken)),),
                   (None, (kept, broken)), (True, (kept, broken)), (("open",), (kept, broken)), (lot, (kept, broken)))
        self.same(self.check(lot, saying, ("open", (kept, ("sky", lot.sky)))), True)

    def test_sure(self):
        lot = Lot(CHART, [exactly(C, 4, gauge="a"), CALM])
        saying = exactly(C, 4)
        word, (low, high) = certificate(lot, saying)
        self.same([word, low[0], high[0]], ["sure", "none", "none"])
        self.wrong(lot, saying, ("sure", (high, low)), ("sure", (low,)), ("sure", (high,)), ("sure", ()),
                   ("sure", (low, low)),
                   ("sure", (high, high)), ("sure", (low, high, high)), ("sure", [low, high]), ["sure", (low, high)],
                   ("never", (low, high)), ("open", (low, high)), ("never", (low,)), ("sure", low),
                   ("sure", (list(low), high)),
                   ("sure", (low, ("sky", lot.sky))), ("sure", (("sky", lot.sky), high)), ("sure", (low, None)),
                   ("sure", None),
                   ("sure", (low, (high[0], None, high[2]))), ("sure", (low, (high[0], high[1]))),
                   ("Sure", (low, high)),
                   ("sure", (low, (high[0], high[1], low[2]))), ("sure", (low, high, ())), ("sure", (low, high), ()))
        # The lines may be a list, and others than those that are told.
        for change in [list, lambda lines: [*lines, *lines], lambda lines: (*lines, (CALM, 5))]:
            self.same(self.check(lot, saying, ("sure", (low, (high[0], change(high[1]), high[2])))), True)

    def test_never(self):
        lot, saying = example(), at_most(C, 2)
        word, (paper,) = certificate(lot, saying)
        self.same(word, "never")
        self.wrong(lot, saying, ("never", ()), ("never", (paper, paper)), ("never", [paper]), ["never", (paper,)],
                   ("sure", (paper,)),
                   ("open", (paper,)), ("never", paper), ("never", (("sky", lot.sky),)),
                   ("never", ((paper[0], (), paper[2]),)),
                   ("never", (list(paper),)), ("never", (paper[:2],)), ("never", ((paper[0], paper[1], LOW),)),
                   ("never", None),
                   ("never", (None,)), ("never", (paper,), 0), ("Never", (paper,)), ("none", (paper,)), ("", (paper,)),
                   (None, (paper,)), (True, (paper,)), ((), (paper,)), (saying, (paper,)))
        # The paper is one for the lot with just this saying put to it.
        self.wrong(lot, at_most(C, 3), ("never", (paper,)))
        self.wrong(Lot(CHART, [LOW, CALM]), saying, ("never", (paper,)))
        self.same(self.check(Lot(CHART, [LOW, CALM, FIVE, LOW]), saying, ("never", (paper,))), True)

    def test_opposites_of_if_then(self):
        lot = Lot(CHART, [at_most(A, 2)])
        saying = if_then(A, 3, B, 5)
        found = certificate(lot, saying)
        self.same([found[0], len(found[1]), self.check(lot, saying, found)], ["sure", 1, True])
        self.wrong(lot, saying, ("sure", found[1] * 2))

    def test_any_values(self):
        lot, saying = example(), at_most(C, 3)
        word, papers = certificate(lot, saying)
        for value in any_values():
            self.wrong(lot, saying, value, (word, value), (value, papers), (word, (value, papers[1])),
                       (word, (papers[0], value)),
                       (word, papers, value), (word, (("sky", value), papers[1])), ("never", (value,)),
                       ("sure", (value,)), [value],
                       (value, value))

    def test_papers_of_other_sayings(self):
        for maker, world, sayings in cases(71, 8, most=4):
            lot = Lot(world.chart, sayings)
            if lot.can_be:
                told = [(saying, certificate(lot, saying)) for saying in [world.saying(maker) for _ in range(4)]]
                for saying, _ in told:
                    for _, value in told:
                        self.check(lot, saying, value)
                        self.check(lot, saying, (value[0], value[1][::-1]))
                        self.check(lot, saying, (value[0], value[1][1:]))


class LotsThatCannotBe(CertificateCase):
    def test_both_may_be_right(self):
        for lot in impossible_lots():
            paper = lot.paper()
            for saying in [LOW, at_least(A, 100), level(A, B, 0), if_then(A, 1, B, 1), squall_most(A[0], 0)]:
                self.same(self.check(lot, saying, ("never", (paper,))), True)
                self.same(self.check(lot, saying, ("sure", (paper,) * len(saying.opposites()))), True)
                self.same(self.check(lot, saying, ("open", (paper, paper))), False)
                self.wrong(lot, saying, ("open", (("sky", Sky(CHART)), ("sky", Sky.full(CHART)))), ("sure", ()), None)

    def test_only_the_right_verdict(self):
        # In a lot that can be, no other verdict has a right certificate.
        for maker, world, sayings in cases(72, 5, most=3):
            lot, saying = Lot(world.chart, sayings), world.saying(maker)
            if lot.can_be:
                word = verdict(lot, saying)
                skies = [("sky", world.sky(at)) for at in maker.choices(world.all, k=3)]
                papers = [*skies, ("sky", lot.sky)]
                for put in [(saying,), *saying.opposites()]:
                    other = lot.with_sayings(put)
                    papers += [other.paper(), *[("none", other.lines(), end) for end in other.parts()]]
                for several in itertools.product(papers, repeat=2):
                    for other in ["sure", "never", "open"]:
                        for value in [(other, several), (other, several[:1])]:
                            if self.check(lot, saying, value):
                                self.same(other, word)

    def test_unders_alone(self):
        lot = Lot(CHART, [under(A, A, -1)])
        paper = lot.paper()
        self.same(self.check(lot, at_most(D, 4), ("sure", (paper,))), True)
        self.same(self.check(lot, at_most(D, 4), ("sure", (("none", paper[1][:-1], paper[2]),))), False)
