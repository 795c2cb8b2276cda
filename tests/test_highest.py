"""The highest sky, and when a lot can be, against all skies of small charts and in each order of the sayings."""

import itertools

from highestsky.lots import Lot
from highestsky.sayings import at_most, under
from highestsky.skies import Sky
from tests.helpers import Case
from tests.worlds import CEILINGS, FLOORS, PLAIN, WORLDS, World, cases, parts_of


def squalls_of(lot):
    return None if lot.sky is None else lot.sky.squalls()


class AllSkies(Case):
    def check_lot(self, world, sayings, lot):
        found, wanted = world.skies_of(sayings), world.highest_sky(sayings)
        self.same(lot.can_be, bool(found))
        self.same(squalls_of(lot), None if wanted is None else wanted.squalls())
        self.same([part.text()
                   for part in lot.parts()], [part.text() for saying in sayings for part in parts_of(saying)])
        if wanted is not None:
            self.same(lot.sky.heights(), wanted.heights())
            at = world.index_of(wanted)
            self.same(lot.broken(), [index for index, saying in enumerate(sayings) if not world.keeps(at, saying)])
            self.same([lot.keeps(lot.sky), lot.paper()[0]], [bool(found), "sky" if found else "none"])

    def test_any_sayings(self):
        for _, world, sayings in cases(20, 40, most=6):
            self.check_lot(world, sayings, Lot(world.chart, sayings))

    def test_ceilings(self):
        for _, world, sayings in cases(21, 30, most=6, kinds=CEILINGS):
            self.check_lot(world, sayings, Lot(world.chart, sayings))

    def test_sayings_of_two_regions(self):
        for _, world, sayings in cases(22, 30, most=6, kinds=["under", "level", "ifthen"]):
            self.check_lot(world, sayings, Lot(world.chart, sayings))

    def test_plain_sayings(self):
        for _, world, sayings in cases(23, 20, most=4, kinds=PLAIN):
            self.check_lot(world, sayings, Lot(world.chart, sayings))

    def test_each_saying_alone(self):
        for maker, world, _ in cases(24, 20):
            saying = world.saying(maker)
            self.check_lot(world, [saying], Lot(world.chart, [saying]))

    def test_keeps(self):
        for maker, world, sayings in cases(25, 6, most=3):
            lot = Lot(world.chart, sayings)
            found = world.skies_of(sayings)
            for at in maker.choices(world.all, k=12):
                self.same(lot.keeps(world.sky(at)), at in found)

    def test_one_by_one_and_taken_back(self):
        for maker, world, sayings in cases(26, 10, most=5):
            lot = Lot(world.chart)
            for at, saying in enumerate(sayings):
                lot.put(saying)
                self.check_lot(world, sayings[:at + 1], lot)
            left = list(sayings)
            while left:
                at = maker.randrange(len(left))
                left.pop(at)
                lot.take_back(at)
                self.check_lot(world, left, lot)
            self.same([lot.sky == Sky.full(world.chart), lot.begun], [True, 1 + len(sayings)])

    def test_each_order(self):
        for _, world, sayings in cases(27, 8, most=4):
            wanted = squalls_of(Lot(world.chart, sayings)), Lot(world.chart, sayings).can_be
            for order in itertools.permutations(sayings):
                lot = Lot(world.chart, order)
                self.same((squalls_of(lot), lot.can_be), wanted)
                later = Lot(world.chart, order[:1])
                later.put(*order[1:])
                self.same((squalls_of(later), later.can_be), wanted)


class Facts(Case):
    def test_no_saying(self):
        for world in WORLDS:
            self.same(Lot(world.chart).sky == Sky.full(world.chart), True)

    def test_the_highest_sky_is_a_sky_of_the_lot(self):
        for _, world, sayings in cases(28, 15):
            lot = Lot(world.chart, sayings)
            for at in world.skies_of([part
                                      for saying in sayings for part in parts_of(saying) if part.kind in CEILINGS]):
                self.same(world.sky(at).is_below(lot.sky), True)

    def test_floors_never_hinder_one_another(self):
        for maker, world, sayings in cases(29, 15, kinds=CEILINGS):
            floors = [world.saying(maker, FLOORS) for _ in range(3)]
            each = [Lot(world.chart, [*sayings, floor]).can_be for floor in floors]
            self.same(Lot(world.chart, [*sayings, *floors]).can_be, all(each))

    def test_a_long_way_down(self):
        world = World(WORLDS[1].chart)
        first, second = [[place] for place in world.places]
        chart = world.chart
        lot = Lot(chart, [under(first, second, 0), under(second, first, -1)])
        self.same([lot.sky, lot.can_be, lot.lines()[-1][1]], [None, False, 0])
        lot = Lot(chart, [under(second, first, -1), at_most(first, 1)])
        self.same([lot.sky.squalls(), lot.can_be], [[((0, 0, 0), 1)], True])
