"""Voyages against all ways of small charts that begin with the places done."""

from highestsky.charts import Chart
from highestsky.errors import Ended, InvalidMeasure, InvalidSaying, NoSky, NoWay, OffChart, OtherChart, TooMany
from highestsky.lots import Lot
from highestsky.papers import is_paper
from highestsky.promises import calmest, roughness, ship_log
from highestsky.sayings import at_least, at_most, exactly, squall_least
from highestsky.trips import GuardedTrip, Trip
from highestsky.voyages import Voyage
from tests.helpers import CALM_WIND, any_values
from tests.journeys import Journey, open_chart, random_journey
from tests.test_promises import NO_MEASURES, OTHER, rough, trips_and_lots
from tests.test_verdicts import CHART, A, B, C, CALM, D, FIVE, LOW, OFF, LotCase, example, impossible_lots
from tests.worlds import cases, state


def whole(voyage):
    """All that is to be the same behind a call that changes nothing."""
    return [voyage.promise, voyage.position, voyage.way(), voyage.done(), state(voyage.lot()), repr(voyage), voyage.by]


class VoyageCase(LotCase):
    def check(self, voyage, journey, done, sayings):
        """Checks all that a voyage tells against the ways that begin with the places done."""
        lot = Lot(journey.chart, sayings)
        heights = lot.sky.heights()
        wanted = min(rough(heights, way, voyage.by) for way in journey.ways if way[:len(done)] == done)
        self.same([voyage.promise, voyage.position, voyage.done()], [wanted, done[-1], done])
        self.same([voyage.way() in journey.ways, voyage.way()[:len(done)], rough(heights, voyage.way(), voyage.by)],
                  [True, done, wanted])
        self.same([voyage.lot() == lot, voyage.lot().can_be, repr(voyage)], [True, True, f"Voyage(hour {done[-1][0]})"])

    def refused_voyage(self, wanted, voyage, call, *args):
        before = whole(voyage)
        self.refused(wanted, call, *args)
        self.same(whole(voyage), before)

    def no_sky_with(self, voyage, call, *sayings):
        before = whole(voyage)
        with self.assertRaises(NoSky) as caught:
            call(*sayings)
        lot = voyage.lot().with_sayings(sayings)
        self.same([is_paper(lot, caught.exception.grounds), caught.exception.grounds[0], lot.can_be],
                  [True, "none", False])
        self.same(whole(voyage), before)


class AllWays(VoyageCase):
    def test_at_each_position(self):
        met = 0
        for maker, journey, lot in trips_and_lots(200, 80):
            if not journey.ways:
                for by in ["greatest", "sum"]:
                    self.refused_by(NoWay(), Voyage, lot, journey.trip, by=by)
                continue
            for by in ["greatest", "sum"]:
                voyage = self.told(Voyage, lot, journey.trip, by=by)
                self.same([voyage.trip is journey.trip or voyage.trip.start, voyage.by], [True, by])
                self.same(voyage.promise, calmest(lot, journey.trip, by=by)[0])
                done = [(journey.first, *journey.start)]
                self.check(voyage, journey, done, lot.sayings())
                while done[-1][0] < journey.last:
                    planned = voyage.way()
                    self.assertIsNone(voyage.sail())
                    done.append(planned[len(done)])
                    self.check(voyage, journey, done, lot.sayings())
                    met += 1
                self.refused_voyage(Ended(), voyage, voyage.sail)
        self.assertGreater(met, 100)

    def test_true_readings(self):
        met = []
        for maker, world, sayings in cases(201, 12, most=3):
            lot, found = Lot(world.chart, sayings), world.skies_of(sayings)
            journey = random_journey(maker, world.chart)
            if found and journey.ways:
                true = maker.choice(found)
                for by in ["greatest", "sum"]:
                    met += self.sailed(maker, world, lot, journey, true, by)
        self.assertGreater(len([drop for drop in met if drop]), 20)

    def sailed(self, maker, world, lot, journey, true, by):
        """Sails through a sky of the lot and hears true readings of it; by how much the promise falls each time."""
        voyage, said, drops = Voyage(lot, journey.trip, by=by), lot.sayings(), []
        done = [(journey.first, *journey.start)]
        while True:
            ahead = voyage.promise
            heard = [exactly(region, world.height(true, region), gauge="ship") for region in [
                world.region(maker) for _ in range(maker.randint(0, 2))]]
            voyage.hear(*heard)
            said += heard
            self.check(voyage, journey, done, said)
            drops.append(ahead - voyage.promise)
            if done[-1][0] == journey.last:
                break
            ahead = voyage.promise
            read = [exactly([done[-1]], world.heights[true][done[-1]])]
            voyage.sail(*read)
            said += read
            self.same(voyage.way()[:len(done)], done)
            done = voyage.done()
            self.check(voyage, journey, done, said)
            drops.append(ahead - voyage.promise)
        self.same([drop for drop in drops if drop < 0], [])
        self.same(rough(world.heights[true], done, by) <= voyage.promise, True)
        return drops

    def test_by_ship_logs(self):
        for maker, journey, lot in trips_and_lots(202, 40):
            if journey.ways:
                voyage = Voyage(lot, journey.trip, by="sum")
                promises = [voyage.promise]
                while voyage.position[0] < journey.last:
                    voyage.sail(*ship_log(lot.sky, [voyage.position]))
                    promises.append(voyage.promise)
                self.same(promises, sorted(promises, reverse=True))
                self.same(roughness(lot.sky, voyage.done(), by="sum") <= promises[0], True)


class Examples(VoyageCase):
    def water(self):
        """A trip there and back, on two ways of which at first both are equally rough."""
        chart = Chart([[9, 9]], [CALM_WIND] * 2)
        lot = Lot(chart, [at_most([(0, 0, 0), (2, 0, 0)], 1)])
        return lot, Trip(chart, (0, 0), (0, 0))

    def test_chosen_anew(self):
        lot, trip = self.water()
        for by, promises in [("greatest", [9, 2, 1]), ("sum", [11, 4, 2])]:
            voyage = Voyage(lot=lot, trip=trip, by=by)
            self.same(voyage.promise, promises[0])
            for place, number, wanted in [((1, 0, 1), 2, promises[1]), ((1, 0, 0), 0, promises[2])]:
                voyage.hear(at_most([place], number))
                self.same([voyage.promise, voyage.way()[1]], [wanted, place])
            voyage.sail(at_most([(1, 0, 1)], 0))
            self.same([voyage.promise, len(voyage.done())], [promises[2], 2])
        self.same(Voyage(lot, trip).by, "greatest")

    def test_what_is_done_stays(self):
        lot, trip = self.water()
        voyage = Voyage(lot, trip, by="sum")
        voyage.hear(at_most([(1, 0, 0)], 5))
        voyage.sail()
        self.same([voyage.position, voyage.promise], [(1, 0, 0), 7])
        # It is too late for the calmer place.
        voyage.hear(at_most([(1, 0, 1)], 0))
        self.same([voyage.position, voyage.promise, voyage.way()], [(1, 0, 0), 7, [(0, 0, 0), (1, 0, 0), (2, 0, 0)]])
        voyage.hear(at_most([(1, 0, 0)], 3), at_most([(2, 0, 0)], 0))
        self.same([voyage.promise, voyage.done()], [4, [(0, 0, 0), (1, 0, 0)]])

    def test_the_way_sailed_is_the_one_just_chosen(self):
        lot, trip = self.water()
        for place, other in [((1, 0, 0), (1, 0, 1)), ((1, 0, 1), (1, 0, 0))]:
            voyage = Voyage(lot, trip)
            voyage.hear(at_most([place], 5))
            self.same(voyage.way()[1], place)
            voyage.sail(at_most([other], 2))
            self.same([voyage.position, voyage.promise], [other, 2])

    def test_one_place(self):
        voyage = Voyage(example(), Trip(CHART, (0, 1), (0, 1), first=1, last=1))
        self.same([voyage.way(), voyage.done(), voyage.position, voyage.promise, repr(voyage)],
                  [D, D, D[0], 6, "Voyage(hour 1)"])
        voyage.hear(at_most(D, 5))
        self.same(voyage.promise, 5)
        self.refused_voyage(Ended(), voyage, voyage.sail, None)

    def test_guarded(self):
        lot, trip = self.water()
        guarded = GuardedTrip(lot.chart, (0, 0), (0, 0), [(1, 0, 1)])
        voyage = Voyage(lot, guarded)
        voyage.hear(at_most([(1, 0, 1)], 0))
        self.same([voyage.promise, voyage.way()[1], voyage.trip is guarded], [9, (1, 0, 0), True])
        for place in [(0, 0, 0), (2, 0, 0)]:
            self.refused(NoWay(), Voyage, lot, GuardedTrip(lot.chart, (0, 0), (0, 0), [place]))

    def test_its_own_lot(self):
        lot = example()
        lot.take_back(1)
        lot.put(CALM)
        voyage = Voyage(lot, Trip(CHART, (0, 0), (0, 1)))
        before, later = whole(voyage), state(lot)
        lot.put(at_most(D, 5))
        self.same(whole(voyage), before)
        told = voyage.lot()
        self.same([told.begun, state(told)], [2, later])
        told.put(at_most(D, 5))
        voyage.way().clear()
        voyage.done().clear()
        self.same(whole(voyage), before)
        voyage.hear(at_most(D, 5))
        self.same([voyage.lot().begun, len(voyage.lot()), voyage.promise], [2, 4, 5])

    def test_twins(self):
        lot, trip = self.water()
        voyage = Voyage(lot, trip, by="sum")
        voyage.hear(at_most([(1, 0, 1)], 4))
        voyage.sail()
        twin = voyage.twin()
        self.same([whole(twin), twin.trip is voyage.trip, type(twin)], [whole(voyage), True, Voyage])
        before = whole(voyage)
        twin.sail(at_most([(2, 0, 0)], 0))
        self.same([whole(voyage), twin.position, twin.promise], [before, (2, 0, 0), 5])
        before = whole(twin)
        voyage.hear(at_most([(1, 0, 1)], 1))
        self.same([whole(twin), voyage.promise], [before, 3])

    def test_twins_of_what_would_be_chosen_otherwise_now(self):
        lot, trip = self.water()
        for place, other in [((1, 0, 0), (1, 0, 1)), ((1, 0, 1), (1, 0, 0))]:
            for by, promise in [("greatest", 5), ("sum", 7)]:
                voyage = Voyage(lot, trip, by=by)
                voyage.sail(at_most([place], 5))
                voyage.hear(at_most([other], 0))
                for twin in [voyage.twin(), voyage.twin().twin()]:
                    self.same([whole(twin), twin.promise, twin.position], [whole(voyage), promise, place])
                    twin.sail()
                    self.same([twin.done(), twin.promise, voyage.position], [voyage.way(), promise, place])

    def test_sixty_and_more_sayings(self):
        voyage = Voyage(Lot(CHART, example().sayings() * 19), Trip(CHART, (0, 0), (0, 1)))
        self.refused_voyage(TooMany(60), voyage, voyage.hear, *[LOW] * 4)
        voyage.hear(*[LOW] * 3)
        for call in [voyage.hear, voyage.sail]:
            self.refused_voyage(TooMany(60), voyage, call, LOW)
            self.refused_voyage(TooMany(60), voyage, call, at_least(A, 10))
        voyage.hear()
        voyage.sail()
        self.same([voyage.position, len(voyage.lot())], [D[0], 60])
        more = Voyage(voyage.lot().with_sayings([LOW, FIVE]), Trip(CHART, (0, 0), (0, 1)))
        self.refused_voyage(TooMany(60), more, more.sail, LOW)
        more.sail()
        self.same([more.position, len(more.lot()), len(more.twin().lot())], [D[0], 62, 62])


class Errors(VoyageCase):
    def test_making(self):
        trips = [Trip(CHART, (0, 0), (0, 0)), Trip(CHART, (0, 0), (0, 1), last=0)]
        for lot in [example(), *impossible_lots()]:
            for trip in [*trips, Trip(OTHER, (0, 0), (0, 1), last=0)]:
                for by in NO_MEASURES:
                    self.refused_by(InvalidMeasure(by), Voyage, lot, trip, by=by)
            for chart in [OTHER, Chart([[0]])]:
                for by in ["greatest", "sum"]:
                    self.refused_by(OtherChart(), Voyage, lot, Trip(chart, (0, 0), (0, 0)), by=by)
            self.refused_by(OtherChart(), Voyage, lot, Trip(OTHER, (0, 0), (0, 1), last=0))
        for trip in trips:
            self.raises_without_a_sky(Voyage, trip)
            self.raises_without_a_sky(Voyage, trip, by="sum")
        self.refused_by(NoWay(), Voyage, example(), trips[1])
        self.refused_by(NoWay(), Voyage, Lot(open_chart()), Trip(open_chart(), (0, 0), (2, 2), last=3), by="sum")

    def test_sayings(self):
        voyage = Voyage(example(), Trip(CHART, (0, 0), (0, 1)))
        for call in [voyage.hear, voyage.sail]:
            for value in [*any_values(), LOW.text(), [LOW], example(), voyage]:
                self.refused_voyage(InvalidSaying(0), voyage, call, value, OFF)
                self.refused_voyage(InvalidSaying(2), voyage, call, LOW, OFF, value, None)
            self.refused_voyage(OffChart((2, 0, 0)), voyage, call, LOW, OFF, at_most([(3, 0, 0)], 1))
            self.refused_voyage(OffChart((2, 0, 0)), voyage, call, *[LOW] * 70, OFF)
            self.refused_voyage(InvalidSaying(60), voyage, call, *[OFF] * 60, 7)
            self.refused_voyage(TooMany(60), voyage, call, at_least(A, 10), *[LOW] * 57)
            for sayings in [(at_least(A, 10),), (LOW, at_most(B, 5)), (squall_least(C[0], 5),), (exactly(D, 7), LOW)]:
                self.no_sky_with(voyage, call, *sayings)

    def test_at_the_end(self):
        voyage = Voyage(example(), Trip(CHART, (0, 0), (0, 1)))
        voyage.sail(at_most(D, 5))
        for sayings in [(), (LOW,), (None,), (OFF,), (at_least(A, 10),), (LOW,) * 70]:
            self.refused_voyage(Ended(), voyage, voyage.sail, *sayings)
        self.refused_voyage(InvalidSaying(0), voyage, voyage.hear, None)
        voyage.hear(at_most(A, 1))
        self.same([voyage.position, voyage.promise, Journey(CHART, (0, 0), (0, 1), 0, 1).ways],
                  [D[0], 5, [voyage.way()]])
