"""Causes against all skies of small charts, and the choices of the floors of plain lots."""

import random

from highestsky.causes import choices, is_cause, least_by_choices, possible_causes, sure_causes, surely_among
from highestsky.charts import Chart
from highestsky.errors import InvalidNumber, InvalidRegion, NotPlain, UnknownPlace
from highestsky.forecasts import least_height
from highestsky.lots import Lot
from highestsky.sayings import at_least, at_most, exactly, if_then, level, squall_least, squall_most, under
from highestsky.skies import Sky
from tests.helpers import CALM_WIND, NO_REGIONS, any_values, largest_chart, wrong_places
from tests.test_verdicts import CHART, A, B, C, CALM, D, FIVE, LOW, LotCase, example, impossible_lots
from tests.worlds import FLOORS, PLAIN, WORLDS, cases, parts_of

NO_AMOUNTS = [0, -1, 101, 102, 10 ** 6, *[value for value in any_values() if type(value) is not int], "5", (5,), LOW]


def raises(world, at, place, region, amount):
    """Whether a place raises a region to an amount by the words of [30]."""
    losses = [world.losses[place, end] for end in region if (place, end) in world.losses]
    return bool(losses) and world.squalls[at][place] - min(losses) >= amount


class CauseCase(LotCase):
    def refuses_regions(self, call):
        for lot in [example(), Lot(CHART, [under(A, B, 0)]), *impossible_lots()[:2]]:
            for value in NO_REGIONS:
                self.refused_by(InvalidRegion(-1), call, lot, value)
            for value in wrong_places(CHART):
                self.refused_by(InvalidRegion(0), call, lot, [value])
                self.refused_by(InvalidRegion(1), call, lot, (A[0], value, value))


class IsCause(CauseCase):
    def test_against_the_words(self):
        met = []
        maker = random.Random(100)
        for world in WORLDS:
            for _ in range(60):
                at, place, region = maker.choice(world.all), maker.choice(world.places), world.region(maker)
                amount = maker.randint(1, world.chart.top + 1)
                met.append(is_cause(world.sky(at), place, region, amount))
                self.same(met[-1], raises(world, at, place, region, amount))
        self.assertGreater(min(met.count(True), met.count(False)), 60)

    def test_an_example(self):
        sky = Sky(CHART, [(A[0], 4), (B[0], 7), (C[0], 4)])
        self.same([is_cause(sky, B[0], D, 6), is_cause(sky, B[0], D, 7), is_cause(sky, A[0], D, 1),
                   is_cause(sky, A[0], D, 2),
                   is_cause(sky, C[0], D, 1), is_cause(sky, D[0], D, 1), is_cause(sky, D[0], B, 1)],
                  [True, False, True, False, False, False, False])
        self.same([is_cause(sky, C[0], C + D, 4), is_cause(sky, C[0], D + C, 5),
                   is_cause(sky=sky, place=A[0], region=C, amount=4)],
                  [True, False, True])
        self.same([is_cause(Sky.full(CHART), A[0], A, amount) for amount in [1, 9, 10, 100]],
                  [True, True, False, False])

    def test_errors(self):
        sky = Sky.full(CHART)
        for place in wrong_places(CHART):
            self.refused(UnknownPlace(place), is_cause, sky, place, A, 1)
            self.refused(UnknownPlace(place), is_cause, sky, place, [], 0)
        for region in NO_REGIONS:
            self.refused(InvalidRegion(-1), is_cause, sky, A[0], region, 1)
            self.refused(InvalidRegion(-1), is_cause, sky, A[0], region, None)
        for place in wrong_places(CHART):
            self.refused(InvalidRegion(1), is_cause, sky, A[0], [A[0], place], 0)
        for amount in NO_AMOUNTS:
            self.refused(InvalidNumber(amount), is_cause, sky, A[0], A, amount)


class Causes(CauseCase):
    def check(self, maker, world, lot, found, region, amount):
        places = [place for place in world.places
                  if any(raises(world, at, place, region, amount) for at in found)]
        self.same(self.told(possible_causes, lot, region, amount), places)
        sure = [place for place in world.places if all(raises(world, at, place, region, amount) for at in found)]
        self.same(self.told(sure_causes, lot, region, amount), sure)
        for many in range(4):
            listed = maker.choices(world.places, k=many)
            wanted = all(any(raises(world, at, place, region, amount) for place in listed) for at in found)
            for value in [listed, tuple(listed), listed[::-1] + listed]:
                self.same(self.told(surely_among, lot, region, amount, value), wanted)
        among = all(any(raises(world, at, place, region, amount) for place in world.places) for at in found)
        self.same(surely_among(lot, region, amount, world.places), among)
        self.same(among, least_height(lot, region) >= amount)
        return len(places), len(sure), among

    def test_against_all_skies(self):
        met = []
        for maker, world, sayings in cases(101, 12, most=4):
            lot, found = Lot(world.chart, sayings), world.skies_of(sayings)
            if found:
                for amount in [1, maker.randint(1, world.chart.top), world.chart.top, world.chart.top + 1]:
                    met.append(self.check(maker, world, lot, found, world.region(maker), amount))
        self.assertGreater(len([sure for _, sure, _ in met if sure]), 15)

    def test_floors(self):
        met = []
        for maker, world, sayings in cases(102, 12, most=3, kinds=[*FLOORS, "under", "atmost"]):
            region = world.region(maker)
            sayings.append(at_least(region, maker.randint(1, 2)))
            lot, found = Lot(world.chart, sayings), world.skies_of(sayings)
            if found:
                for amount in [1, 2]:
                    met.append(self.check(maker, world, lot, found, region, amount))
        # Some place does so in each sky, but no place in all of them.
        self.assertGreater(len([sure for _, sure, among in met if among and not sure]), 5)

    def test_an_example(self):
        lot = example()
        self.same([possible_causes(lot, D, 5), sure_causes(lot, D, 5), surely_among(lot, D, 5, [B[0]]),
                   surely_among(lot, D, 5, [A[0]]),
                   surely_among(lot, D, 6, B)], [[B[0]], [B[0]], True, False, False])
        self.same([possible_causes(lot=lot, region=C, amount=3), sure_causes(lot=lot, region=C, amount=3),
                   surely_among(lot=lot, region=C, amount=3, places=(B[0],))], [[A[0], B[0], C[0]], [B[0]], True])

    def test_one_or_the_other(self):
        lot = Lot(Chart([[0, 0]], [CALM_WIND]), [at_least([(1, 0, 0)], 3), squall_most((1, 0, 0), 0)])
        self.same([possible_causes(lot, [(1, 0, 0)], 3), sure_causes(lot, [(1, 0, 0)], 3)],
                  [[(0, 0, 0), (0, 0, 1)], []])
        self.same([surely_among(lot, [(1, 0, 0)], 3, [(0, 0, 0), (0, 0, 1)]),
                   surely_among(lot, [(1, 0, 0)], 3, [(0, 0, 1)])],
                  [True, False])

    def test_amounts_about_the_top(self):
        lot = Lot(CHART, [squall_least(A[0], 9)])
        self.same([possible_causes(lot, A, 9), sure_causes(lot, A, 9), surely_among(lot, A, 9, A)], [A, A, True])
        for amount in [10, 50, 100]:
            self.same([possible_causes(lot, A, amount), sure_causes(lot, A, amount), surely_among(lot, A, amount, A)],
                      [[], [], False])
        top = Chart([[0]], top=99)
        lot = Lot(top, [at_least(A, 99)])
        self.same([sure_causes(lot, A, 99), sure_causes(lot, A, 100), possible_causes(lot, A, 100),
                   surely_among(lot, A, 99, A)],
                  [A, [], [], True])

    def test_an_empty_list(self):
        for lot in [Lot(CHART), example()]:
            for places in [[], ()]:
                self.same(surely_among(lot, D, 5, places), False)

    def test_many_places(self):
        self.same(surely_among(example(), D, 5, B * 400), True)
        lot = Lot(CHART, [FIVE] * 60)
        self.same(surely_among(lot, D, 5, [A[0], B[0], D[0]] * 100), True)
        self.same(surely_among(lot, D, 5, [A[0], B[0]] * 100), False)
        chart = largest_chart()
        lot = Lot(chart, [at_least([(8, 5, 5)], 60)])
        self.same(surely_among(lot, [(8, 5, 5)], 60, chart.places()), True)

    def test_errors(self):
        for call in [lambda lot, region: possible_causes(lot, region, 0), lambda lot,
                     region: sure_causes(lot, region, 0),
                     lambda lot, region: surely_among(lot, region, 0, [None]), lambda lot,
                     region: possible_causes(lot, region, 1)]:
            self.refuses_regions(call)
        for lot in [example(), *impossible_lots()]:
            for amount in NO_AMOUNTS:
                self.refused_by(InvalidNumber(amount), possible_causes, lot, A, amount)
                self.refused_by(InvalidNumber(amount), sure_causes, lot, A, amount)
                self.refused_by(InvalidNumber(amount), surely_among, lot, A, amount, [None])
            for place in wrong_places(CHART):
                self.refused_by(UnknownPlace(place), surely_among, lot, A, 1, [place])
                self.refused_by(UnknownPlace(place), surely_among, lot, A, 100, (A[0], place, None))
        self.raises_without_a_sky(possible_causes, A, 1)
        self.raises_without_a_sky(sure_causes, A, 100)
        for places in [[], A, [A[0], D[0]]]:
            self.raises_without_a_sky(surely_among, A, 1, places)


def choices_of(world, sayings, region):
    """The choices by the words of [31], from the highest sky and the least losses of all pairs of places."""
    squalls = world.highest_of(sayings)
    found = []
    for at, saying in enumerate(sayings):
        for floor in parts_of(saying):
            if floor.kind in FLOORS:
                carriers = []
                for place in world.places:
                    ends = floor.regions()[0]
                    losses = [world.losses[place, end] for end in ends if (place, end) in world.losses]
                    if floor.kind == "squallleast":
                        losses = [0] if place == ends[0] else []
                    if losses and squalls[place] >= floor.numbers()[0] + min(losses):
                        need = floor.numbers()[0] + min(losses)
                        behind = [world.losses[place, end] for end in region if (place, end) in world.losses]
                        carriers.append((max(0, need - min(behind)) if behind else 0, place))
                found.append((at, *min(carriers)))
    return found


class Choices(CauseCase):
    def test_against_all_skies(self):
        met = []
        for maker, world, sayings in [*cases(103, 25, most=5, kinds=PLAIN),
                                      *cases(104, 10, most=4, kinds=[*FLOORS, "exactly"])]:
            lot, found = Lot(world.chart, sayings), world.skies_of(sayings)
            if found:
                region = world.region(maker)
                wanted = choices_of(world, sayings, region)
                self.same(self.told(choices, lot, region), wanted)
                least = min(world.height(at, region) for at in found)
                self.same(self.told(least_by_choices, lot, region), least)
                self.same(least_height(lot, region), least)
                met += [share for _, share, _ in wanted]
        self.assertGreater(min(met.count(0), len(met) - met.count(0)), 50)

    def test_an_example(self):
        lot = example()
        self.same([choices(lot, C), least_by_choices(lot, C)], [[(2, 3, B[0])], 3])
        self.same([choices(lot=lot, region=B), least_by_choices(lot=lot, region=B), choices(lot, D), choices(lot, A)],
                  [[(2, 6, B[0])], 6, [(2, 5, B[0])], [(2, 0, B[0])]])

    def test_without_floors(self):
        for lot in [Lot(CHART), Lot(CHART, [LOW, CALM, exactly(A, 0), exactly(B, 0, gauge="a")])]:
            self.same([choices(lot, C), least_by_choices(lot, C)], [[], 0])

    def test_floors_of_both_kinds(self):
        lot = Lot(CHART, [at_most(D, 6), squall_least(A[0], 4), exactly(C, 5), squall_least(D[0], 2),
                          at_least(A + B, 1)])
        self.same(choices(lot, C), [(1, 4, A[0]), (2, 5, A[0]), (3, 0, D[0]), (4, 0, B[0])])
        self.same([choices(lot, D), least_by_choices(lot, C), least_by_choices(lot, D)],
                  [[(1, 1, A[0]), (2, 0, C[0]), (3, 2, D[0]), (4, 0, A[0])], 5, 2])

    def test_the_least_place(self):
        # All four places carry the floor with the share 0; those of hour 1 reach no place of hour 0.
        lot = Lot(Chart([[0, 0]], [(0,) * 5]), [at_least([(1, 0, 0)], 3)])
        self.same(choices(lot, [(1, 0, 0)]), [(0, 3, (0, 0, 0))])
        self.same(choices(lot, [(0, 0, 0)]), [(0, 0, (0, 0, 1))])
        self.same(choices(lot, [(0, 0, 0), (0, 0, 1)]), [(0, 0, (1, 0, 0))])

    def test_one_carrier(self):
        lot = Lot(CHART, [at_least(D, 5), squall_most(A[0], 0), squall_most(B[0], 0)])
        self.same([choices(lot, A), choices(lot, D), choices(lot, C)], [[(0, 0, D[0])], [(0, 5, D[0])], [(0, 0, D[0])]])
        lot = Lot(CHART, [at_least(C + D, 8), squall_most(C[0], 7), squall_most(A[0], 7), squall_most(D[0], 0)])
        self.same([choices(lot, B), least_by_choices(lot, B)], [[(0, 9, B[0])], 9])

    def test_sixty_sayings(self):
        lot = Lot(CHART, [LOW, CALM, FIVE] * 20)
        self.same([choices(lot, C), least_by_choices(lot, C)], [[(3 * at + 2, 3, B[0]) for at in range(20)], 3])
        more = lot.with_sayings([FIVE])
        self.same([choices(more, C)[-1], least_by_choices(more, C)], [(60, 3, B[0]), 3])

    def test_regions_of_any_form(self):
        lot = example()
        for region in [C + A, A + C, (C[0], A[0], C[0]), C * 20 + A * 20]:
            self.same([choices(lot, region), least_by_choices(lot, region)], [[(2, 3, B[0])], 3])

    def test_errors(self):
        for call in [choices, least_by_choices]:
            self.refuses_regions(call)
            for saying in [under(A, B, 0), level(A, B, 0), if_then(A, 1, B, 1)]:
                for ahead in [[], [LOW], [LOW, CALM, exactly(A, 3)]]:
                    for behind in [[], [saying], [at_least(A, 10)], [under(A, A, -1)]]:
                        self.refused_by(NotPlain(len(ahead)), call, Lot(CHART, [*ahead, saying, *behind]), C)
                        self.refused_by(InvalidRegion(-1), call, Lot(CHART, [*ahead, saying, *behind]), [])
            for lot in impossible_lots()[:2]:
                self.no_sky(call, lot, A)
            for lot in impossible_lots()[2:]:
                self.refused_by(NotPlain(0 if len(lot) == 1 else 1), call, lot, A)
