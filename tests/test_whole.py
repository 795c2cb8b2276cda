"""What holds over the whole program: mirrors, lots that are alike, one lot in many forms, and texts alone."""

import random

from highestsky.barriers import barrier, is_barrier
from highestsky.causes import (
    choices, is_cause, least_by_choices, possible_causes, sure_causes, surely_among,
)
from highestsky.certificates import certificate, is_certificate
from highestsky.charts import Chart
from highestsky.cores import are_alike, core, is_core, is_stronger, least_lot, needless, parting_sky
from highestsky.doubts import Doubt
from highestsky.forecasts import (
    forecast_rows, greatest_height, height_span, least_height, possible_heights, sky_for, skipped_heights,
)
from highestsky.gauges import fewest_false, gauges, without_gauges
from highestsky.hedges import blind_promise, informed_promise, seeing_promise, worth_of_seeing
from highestsky.lots import Lot
from highestsky.mirrors import MIRRORS, mirrored, mirrored_place, mirrored_sky
from highestsky.office import Office
from highestsky.officetexts import read_office, write_office
from highestsky.papers import is_paper
from highestsky.papertexts import paper_text, read_paper
from highestsky.plans import find_plan, followed_plan, is_plan, plan_depth
from highestsky.promises import calmest, earliest, possibly_calm, roughness, ship_log, surely_calm
from highestsky.sayings import at_least, at_most, exactly, if_then, level, squall_least, squall_most, under
from highestsky.sayingtexts import read_saying
from highestsky.stations import best_station, check_stations, is_silent, open_readings, settles
from highestsky.thinning import is_thin, thinned
from highestsky.trips import GuardedTrip, Trip, check_way, is_way, many_ways, ways
from highestsky.verdicts import one_is_sure, verdict
from highestsky.voyages import Voyage
from tests.helpers import Case
from tests.journeys import random_journey
from tests.test_verdicts import CHART, A, B, C, CALM, D, FIVE, LOW, example
from tests.worlds import WORLDS, cases, state


def moved_lot(lot, how):
    return Lot(mirrored(lot.chart, how), [saying.moved(lot.chart, how) for saying in lot.sayings()])


def moved_region(chart, region, how):
    return [mirrored_place(chart, place, how) for place in region]


class Mirrors(Case):
    def test_lots(self):
        for maker, world, sayings in cases(260, 8, most=4):
            lot = Lot(world.chart, sayings)
            region, saying = world.region(maker), world.saying(maker)
            for how in MIRRORS:
                moved = moved_lot(lot, how)
                self.same([moved.can_be, moved.sky is None], [lot.can_be, lot.sky is None])
                if lot.can_be:
                    there = moved_region(world.chart, region, how)
                    self.same(moved.sky == mirrored_sky(lot.sky, how), True)
                    self.same([verdict(moved, saying.moved(world.chart, how)), possible_heights(moved, there)],
                              [verdict(lot, saying), possible_heights(lot, region)])
                    self.same([sorted(moved_region(world.chart, possible_causes(lot, region, 1), how)),
                               needless(moved)], [possible_causes(moved, there, 1), needless(lot)])

    def test_trips(self):
        for maker, world, sayings in cases(261, 8, most=4):
            lot = Lot(world.chart, sayings)
            journey = random_journey(maker, world.chart)
            if lot.can_be:
                for how in MIRRORS:
                    moved = moved_lot(lot, how)
                    ends = [mirrored_place(world.chart, (0, *cell), how)[1:] for cell in [journey.start, journey.goal]]
                    trip = GuardedTrip(moved.chart, *ends, moved_region(world.chart, journey.forbidden or [], how),
                                       first=journey.first, last=journey.last)
                    self.same(many_ways(trip), len(journey.ways))
                    for by in ["greatest", "sum"]:
                        told = [calmest(lot, journey.trip, by=by), calmest(moved, trip, by=by)]
                        self.same([found and found[0] for found in told[:1]],
                                  [found and found[0] for found in told[1:]])
                    found = barrier(lot, journey.trip, 1)
                    if found is not None:
                        self.same(is_barrier(moved, trip, 1, sorted(moved_region(world.chart, found, how))), True)

    def test_offices(self):
        maker = random.Random(262)
        for world in WORLDS:
            for how in MIRRORS:
                office, moved = Office(world.chart), Office(mirrored(world.chart, how))
                for _ in range(12):
                    word = maker.choice(["report", "report", "watch", "publish", "hour", "withdraw"])
                    item = world.saying(maker)
                    deed, other = (word, item), (word, item.moved(world.chart, how))
                    if word in ("publish", "hour"):
                        deed = other = (word,)
                    if word == "withdraw":
                        deed = other = (word, maker.randint(0, 2))
                    self.both(office, moved, deed, other)
                self.compare(world, office, moved, how)

    def both(self, office, moved, deed, other):
        """Does both deeds, of which both are right or both wrong."""
        codes = []
        for one, act in [(office, deed), (moved, other)]:
            try:
                one.do(act)
                codes.append(None)
            except (ValueError, LookupError) as wrong:
                codes.append(wrong.code)
        self.same(codes[0], codes[1])

    def compare(self, world, office, moved, how):
        self.same([office.now, office.verdicts(), [number for number, _ in office.standing()], office.history()],
                  [moved.now, moved.verdicts(), [number for number, _ in moved.standing()], moved.history()])
        self.same(moved_lot(office.lot(), how) == moved.lot(), True)
        for (hour, verdicts, heights), told in zip(office.bulletins(), moved.bulletins()):
            pairs = sorted((mirrored_place(world.chart, (0, *cell), how)[1:], height) for cell, height in heights)
            self.same((hour, verdicts, tuple(pairs)), told)


class Alike(Case):
    def others(self, world, sayings, maker):
        """Lots that are alike: in another order, with sayings twice, with a sure one, and by parts."""
        lot = Lot(world.chart, sayings)
        yield Lot(world.chart, sayings[::-1])
        yield Lot(world.chart, sayings + sayings)
        yield Lot(world.chart, lot.parts())
        yield least_lot(lot)
        saying = world.saying(maker, gauges=(None,))
        if verdict(lot, saying) == "sure":
            yield lot.with_sayings([saying])

    def test_alike_lots_answer_alike(self):
        for maker, world, sayings in cases(263, 6, most=4, gauges=(None,)):
            lot = Lot(world.chart, sayings)
            if lot.can_be:
                region, saying, bar = world.region(maker), world.saying(maker), maker.randint(0, 3)
                journey = random_journey(maker, world.chart)
                stations = [world.region(maker) for _ in range(3)]
                for other in self.others(world, sayings, maker):
                    self.same([are_alike(lot, other), parting_sky(lot, other), is_stronger(other, lot)],
                              [True, None, True])
                    self.same(self.answers(lot, region, saying, bar, journey, stations),
                              self.answers(other, region, saying, bar, journey, stations))

    def answers(self, lot, region, saying, bar, journey, stations):
        plan = find_plan(lot, stations, saying)
        calm = [calmest(lot, journey.trip, by=by) for by in ["greatest", "sum"]]
        voyage = Voyage(lot, journey.trip) if journey.ways else None
        doubt = Doubt(lot)
        told = [
            lot.sky.squalls(), verdict(lot, saying), height_span(lot, region), possible_heights(lot, region),
            skipped_heights(lot, region), possible_causes(lot, region, 1), sure_causes(lot, region, 1),
            open_readings(lot, region, saying), settles(lot, region, saying), is_silent(lot, region),
            best_station(lot, stations, saying), None if plan is None else plan_depth(plan),
            [found and found[0] for found in calm], voyage and voyage.promise, barrier(lot, journey.trip, bar) is None,
            [surely_calm(lot, way, bar) for way in journey.ways[:3]], one_is_sure(lot, saying, at_most(region, bar)),
            [possibly_calm(lot, way, bar) for way in journey.ways[:3]], list(forecast_rows(lot, 0)),
            doubt.cases(), doubt.verdict(saying), doubt.height_span(region), doubt.worst_heights(),
            seeing_promise(doubt, journey.trip),
        ]
        early = earliest(lot, journey.trip, bar)
        return [*told, early and early[0]]

    def test_a_stronger_lot_knows_more(self):
        for maker, world, sayings in cases(264, 10, most=4):
            lot, more = Lot(world.chart, sayings), world.sayings(maker, 2)
            strong = lot.with_sayings(more)
            if strong.can_be:
                journey, region, saying = random_journey(maker, world.chart), world.region(maker), world.saying(maker)
                self.same([is_stronger(strong, lot), strong.sky.is_below(lot.sky)], [True, True])
                if verdict(lot, saying) != "open":
                    self.same(verdict(strong, saying), verdict(lot, saying))
                spans = [height_span(lot, region), height_span(strong, region)]
                self.same([spans[1][0] >= spans[0][0], spans[1][1] <= spans[0][1]], [True, True])
                if journey.ways:
                    self.same(calmest(strong, journey.trip)[0] <= calmest(lot, journey.trip)[0], True)


class OneLot(Case):
    """The same lot as a lot, in a doubt, in an office and in a voyage."""

    def test_in_all_forms(self):
        for maker, world, sayings in cases(265, 12, most=4):
            lot = Lot(world.chart, sayings)
            doubt = Doubt(lot, allowed=0)
            self.same([doubt.can_be, doubt.lot() == lot], [lot.can_be, True])
            if not lot.can_be:
                continue
            office = Office(world.chart)
            office.do(*[("report", saying) for saying in sayings])
            self.same([state(office.lot()), state(office.known_lot(0)), state(doubt.case_lot(()))], [state(lot)] * 3)
            self.same(state(read_office(office.text()).lot()), state(lot))
            saying, region = world.saying(maker), world.region(maker)
            office.do(("watch", saying))
            word = verdict(lot, saying)
            self.same([office.verdicts(), office.say("ask " + str(saying)), doubt.verdict(saying)],
                      [[word], word, word])
            text = "+".join(".".join(str(number) for number in place) for place in sorted(set(region)))
            least, greatest = height_span(lot, region)
            self.same([office.say("span " + text), doubt.height_span(region)],
                      [f"{least} {greatest}", (least, greatest)])
            journey = random_journey(maker, world.chart)
            if journey.ways:
                voyage = Voyage(lot, journey.trip)
                self.same([state(voyage.lot()), voyage.promise, blind_promise(doubt, journey.trip)[0]],
                          [state(lot), calmest(lot, journey.trip)[0], calmest(lot, journey.trip)[0]])
                self.same(voyage.way() == calmest(lot, journey.trip)[1], True)


class TextsAlone(Case):
    def test_from_texts_to_a_promise(self):
        chart = Chart.read("chart 9\nrow 9 9\nwind 0 0 0 0 0\nwind 0 0 0 0 0\nend\n")
        lot = Lot.read(chart, "atmost 1 0.0.0+2.0.0\natmost 7 1.0.0\nby buoy atmost 5 1.0.1\n")
        trip = Trip(chart, (0, 0), (0, 0))
        self.same([calmest(lot, trip), calmest(lot, trip, by="sum")],
                  [(5, [(0, 0, 0), (1, 0, 1), (2, 0, 0)]), (7, [(0, 0, 0), (1, 0, 1), (2, 0, 0)])])
        voyage = Voyage(lot, trip)
        voyage.hear(read_saying("atmost 3 1.0.0"))
        self.same([voyage.promise, voyage.way()[1]], [3, (1, 0, 0)])
        self.same(read_paper(chart, paper_text(lot.paper()))[1] == lot.sky, True)
        reports = "".join(f"report {line}\n" for line in lot.text().split("\n")[:-1])
        office = read_office(chart.text() + reports + "end\n")
        self.same([calmest(office.lot(), trip)[0], office("span 1.0.1"), office("ask by buoy atmost 5 1.0.1")],
                  [5, "0 5", "sure"])

    def test_texts_that_cannot_be(self):
        lot = Lot.read(CHART, "atmost 4 1.0.0\nsquallmost 0 1.0.1\natleast 7 1.0.1\n")
        paper = read_paper(CHART, paper_text(lot.paper()))
        self.same([is_paper(lot, paper), core(lot)], [True, [0, 1, 2]])


class ByName(Case):
    """Each parameter that may be passed by name, with the name that it has in the document."""

    def test_of_lots(self):
        lot = example()
        self.same([verdict(lot=lot, saying=FIVE), is_certificate(lot=lot, saying=FIVE, value=certificate(
            lot=lot, saying=FIVE)), is_core(lot=lot, value=[0])], ["sure", True, False])
        self.same([needless(lot=lot), least_lot(lot=lot) == lot, greatest_height(lot=lot, region=A), least_height(
            lot=lot, region=A)], [[], True, 4, 0])
        self.same([sky_for(lot=lot, region=C, number=3) is None, is_cause(sky=lot.sky, place=B[0], region=D, amount=6),
                   surely_among(lot=lot, region=D, amount=5, places=B), choices(lot=lot, region=C)],
                  [False, True, True, [(2, 3, B[0])]])
        self.same([least_by_choices(lot=lot, region=C), is_thin(lot=lot, sky=lot.sky),
                   thinned(lot=lot, sky=lot.sky).squalls()],
                  [3, False, [(B[0], 6)]])

    def test_of_readings(self):
        lot, saying = example(), at_least(B, 7)
        self.same([check_stations(chart=CHART, stations=[A]), settles(lot=lot, station=D, saying=saying),
                   open_readings(lot=lot, station=C, saying=saying), is_silent(lot=lot, station=D),
                   best_station(lot=lot, stations=[C, D], saying=saying)], [None, True, [4], False, (1, 0)])
        plan = find_plan(lot=lot, stations=[D], saying=saying, most=1)
        self.same([is_plan(lot=lot, stations=[D], saying=saying, value=plan), plan_depth(plan=plan),
                   followed_plan(plan=plan, stations=[D], sky=lot.sky)], [True, 1, ([(0, 6)], "sure")])

    def test_of_trips(self):
        lot, trip = example(), Trip(chart=CHART, start=(0, 0), goal=(0, 1), first=0, last=1)
        way = [A[0], D[0]]
        self.same([check_way(chart=CHART, way=way), is_way(trip=trip, value=way), list(ways(trip=trip)),
                   many_ways(trip=trip)],
                  [None, True, [way], 1])
        self.same([roughness(sky=lot.sky, way=way, by="sum"), calmest(lot=lot, trip=trip, by="sum"),
                   earliest(lot=lot, trip=trip, bar=6), surely_calm(lot=lot, way=way, bar=6), possibly_calm(
                       lot=lot, way=way, bar=4)], [10, (10, way), (1, way), True, False])
        self.same([str(said) for said in ship_log(sky=lot.sky, way=way[1:], gauge="a")], ["by a exactly 6 1.0.1"])
        self.same([barrier(lot=lot, trip=trip, bar=5), is_barrier(lot=lot, trip=trip, bar=5, value=D)], [D, True])
        voyage = Voyage(lot=lot, trip=trip, by="sum")
        self.same([voyage.promise, trip.next_places(place=A[0]), trip.may_be(place=B[0])], [10, [C[0], D[0]], True])

    def test_of_doubts_and_offices(self):
        lot = Lot(CHART, [LOW.with_gauge("a"), CALM])
        self.same([gauges(lot=lot), len(without_gauges(lot=lot, names=["a"])), fewest_false(lot=lot)],
                  [["a"], 1, (0, [()])])
        doubt, trip = Doubt(lot=lot, allowed=1), Trip(CHART, (0, 0), (0, 0))
        doubt.change(allowed=1)
        self.same([len(doubt.case_lot(names=("a",))), doubt.case_sky(names=("a",)).squall(place=A[0]), doubt.verdict(
            saying=LOW), doubt.height_span(region=A), doubt.surely_false(gauge="a")], [1, 9, "open", (0, 9), False])
        self.same([blind_promise(doubt=doubt, trip=trip)[0], seeing_promise(doubt=doubt, trip=trip), informed_promise(
            doubt=doubt, trip=trip, hour=0), worth_of_seeing(doubt=doubt, trip=trip)], [9, 9, 9, 0])
        office = Office(chart=CHART)
        self.same([office.say(line="now"), office.known_lot(hour=0) == Lot(CHART), read_office(text=write_office(
            office=office)) == office], ["0", True, True])

    def test_of_sayings(self):
        self.same([str(saying) for saying in [
            at_most(region=A, limit=1, gauge="a"), at_least(region=A, amount=1, gauge=None), exactly(region=A, limit=0),
            under(region=A, other=B, more=-1), level(region=A, other=B, more=1), if_then(region=A, amount=1, other=B,
                                                                                         least=2),
            squall_most(place=A[0], limit=1), squall_least(place=A[0], amount=1)]],
            ["by a atmost 1 0.0.0", "atleast 1 0.0.0", "exactly 0 0.0.0", "under -1 0.0.0 0.0.1", "level 1 0.0.0 0.0.1",
             "ifthen 1 0.0.0 2 0.0.1", "squallmost 1 0.0.0", "squallleast 1 0.0.0"])
