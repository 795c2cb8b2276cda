"""Plans against all skies of small charts: found, checked in all ways in which they can be bent, and followed."""

import random

from highestsky.charts import Chart
from highestsky.errors import InvalidNumber, InvalidSaying, InvalidStation, NoBranch, OffChart
from highestsky.forecasts import possible_heights
from highestsky.lots import Lot
from highestsky.plans import find_plan, followed_plan, is_plan, plan_depth
from highestsky.sayings import at_least, at_most, exactly, if_then, level, squall_most, under
from highestsky.skies import Sky
from tests.helpers import CALM_WIND, any_values
from tests.test_stations import NO_LISTS, StationCase, readings_of
from tests.test_verdicts import CHART, A, B, C, D, LOW, OFF, example, verdict_of
from tests.worlds import WORLDS, cases

NO_DEPTHS = [-1, 4, 5, 100, *[value for value in any_values() if type(value) is not int], "2", [2], (2,), 2 ** 40]


def least_depth(world, found, stations, saying, most):
    """The least depth of a plan by the words of [34], looked for up to a number; None if there is none."""
    if verdict_of(world, found, saying) != "open":
        return 0
    if most == 0:
        return None
    depths = []
    for station in stations:
        below = [least_depth(world, group, stations, saying, most - 1)
                 for group in readings_of(world, found, station).values()]
        if None not in below:
            depths.append(1 + max(below))
    return min(depths, default=None)


def is_right(world, found, stations, saying, value, most=3):
    """Whether any value is a plan at most so deep, by the words of [34]."""
    if type(value) is not tuple or not value or type(value[0]) is not str:
        return False
    if len(value) == 1:
        return value[0] != "open" and value[0] == verdict_of(world, found, saying)
    if len(value) != 3 or value[0] != "read" or most == 0 or type(value[1]) is not int or type(value[2]) is not tuple:
        return False
    if not 0 <= value[1] < len(stations):
        return False
    groups = readings_of(world, found, stations[value[1]])
    pairs = [pair for pair in value[2] if type(pair) is tuple and len(pair) == 2 and type(pair[0]) is int]
    if len(pairs) != len(value[2]) or [pair[0] for pair in pairs] != list(groups):
        return False
    return all(is_right(world, groups[reading], stations, saying, plan, most - 1) for reading, plan in pairs)


def any_plan(maker, world, found, stations, saying, most):
    """Some plan, which may read stations again and go on when the saying is settled; None if it ends too early."""
    word = verdict_of(world, found, saying)
    if word != "open" and (most == 0 or maker.random() < 0.4):
        return (word,)
    if most == 0:
        return None
    for index in maker.sample(range(len(stations)), len(stations)):
        groups = readings_of(world, found, stations[index])
        branches = [(reading, any_plan(maker, world, group, stations, saying, most - 1))
                    for reading, group in groups.items()]
        if None not in [plan for _, plan in branches]:
            return ("read", index, tuple(branches))
    return None


def bent(value, stations):
    """Values that differ from a tuple of a plan in one thing, at any depth."""
    yield list(value)
    yield (*value, value[-1])
    yield value[:-1]
    yield (value,)
    if len(value) == 1:
        for word in ["sure", "never", "open", "read", "", None, True, 0, ("sure",), ["never"]]:
            yield (word,)
        yield (*value, 0, ())
        yield ("read", 0, ((0, value),))
        return
    word, index, branches = value
    for other in ["sure", "never", "open", "branch", None, 1, ("read",)]:
        yield (other, index, branches)
    for other in [-1, len(stations), True, False, None, str(index), (index,), *range(len(stations))]:
        yield (word, other, branches)
    yield (word, index, list(branches))
    yield (word, index, branches[::-1])
    yield (word, index, dict(branches) if len(branches) else {})
    yield (word, branches, index)
    yield from ((word, index, other) for other in [None, 0, "", (), [], ((),), (None,), branches[0]])
    for at, (reading, plan) in enumerate(branches):
        ahead, behind = branches[:at], branches[at + 1:]
        yield (word, index, (*ahead, *behind))
        yield (word, index, (*ahead, branches[at], *branches[at:]))
        for pair in [(reading + 1, plan), (reading - 1, plan), (reading == 1, plan), (str(reading), plan), (None, plan),
                     [reading, plan], (reading,), (reading, plan, plan), (plan, reading), plan, (reading, None),
                     (reading, reading), (10 ** 9, plan), (-1, plan), (reading, plan[0])]:
            yield (word, index, (*ahead, pair, *behind))
        for other in bent(plan, stations):
            yield (word, index, (*ahead, (reading, other), *behind))


class Found(StationCase):
    def check(self, world, lot, found, stations, saying):
        wanted = least_depth(world, found, stations, saying, 3)
        for most in range(4):
            plan = self.told(find_plan, lot, stations, saying, most=most)
            self.same(plan is None, wanted is None or wanted > most)
            if plan is not None:
                self.same([is_right(world, found, stations, saying, plan), plan_depth(plan), is_plan(
                    lot, stations, saying, plan)], [True, wanted, True])
                self.same(find_plan(lot, stations, saying, most=most), plan)
        self.same(find_plan(lot, stations, saying), find_plan(lot, stations, saying, most=2))
        return wanted

    def test_against_all_skies(self):
        met = []
        for maker, world, sayings in cases(150, 30, most=3):
            lot, found = Lot(world.chart, sayings), world.skies_of(sayings)
            if found:
                stations = [world.region(maker) for _ in range(maker.randint(1, 4))]
                met.append(self.check(world, lot, found, stations, world.saying(maker)))
        for depth, least in [(0, 50), (1, 20), (2, 0), (None, 20)]:
            self.assertGreater(met.count(depth), least, depth)

    def test_deep_plans(self):
        met = []
        maker = random.Random(151)
        for world in WORLDS[1:]:
            for _ in range(8):
                stations = [[place] for place in maker.sample(world.places, min(3, len(world.places)))]
                saying = world.saying(maker, ["under", "level", "ifthen", "atmost"])
                met.append(self.check(world, Lot(world.chart), list(world.all), stations, saying))
        self.assertGreater(met.count(2), 5)

    def test_three_readings(self):
        chart = Chart([[1, 2, 3]], top=2)
        cells = [[place] for place in chart.places()]
        low = at_most([place for cell in cells for place in cell], 1)
        lot = Lot(chart)
        self.same([find_plan(lot, cells, low), find_plan(lot, cells, low, most=1),
                   find_plan(lot, cells[:2], low, most=3)], [None, None, None])
        plan = find_plan(lot=lot, stations=cells, saying=low, most=3)
        self.same([plan_depth(plan), is_plan(lot, cells, low, plan), plan[0], len(plan[2])], [3, True, "read", 3])
        one = find_plan(lot, [*cells, cells[0] + cells[1] + cells[2]], low)
        self.same(one, ("read", 3, ((0, ("sure",)), (1, ("sure",)), (2, ("never",)))))

    def test_settled_sayings(self):
        lot = example()
        for most in range(4):
            self.same(find_plan(lot, [A], at_least(B, 6), most=most), ("sure",))
            self.same(find_plan(lot, [A, B, C], at_most(C, 2), most=most), ("never",))

    def test_an_example(self):
        lot = example()
        self.same([find_plan(lot, [D], at_least(B, 7)), find_plan(lot, [C, (B[0],)], at_least(B, 7), most=1)],
                  [("read", 0, ((5, ("never",)), (6, ("sure",)))), ("read", 1, ((6, ("never",)), (7, ("sure",))))])
        self.same([find_plan(lot, [C], at_least(B, 7)), find_plan(lot, [D], at_least(B, 7), most=0)], [None, None])

    def test_six_stations(self):
        lot = example()
        stations = [C, A + C, A + A, D * 40, B, C]
        plan = find_plan(lot, stations, at_least(B, 7))
        self.same([plan_depth(plan), is_plan(lot, stations, at_least(B, 7), plan)], [1, True])
        self.same(find_plan(lot, [C] * 6, at_least(B, 7), most=3), None)

    def test_skipped_readings(self):
        lot = Lot(CHART, [if_then(A, 1, A, 8)])
        plan = find_plan(lot, [A], at_most(A, 8))
        self.same(plan, ("read", 0, ((0, ("sure",)), (8, ("sure",)), (9, ("never",)))))

    def test_sixty_and_more_sayings(self):
        lot = Lot(CHART, example().sayings() * 20)
        for other in [lot, lot.with_sayings([LOW])]:
            plan = find_plan(other, [D], at_least(B, 7))
            self.same([plan, is_plan(other, [D], at_least(B, 7), plan)],
                      [("read", 0, ((5, ("never",)), (6, ("sure",)))), True])


class Checked(StationCase):
    def check(self, world, lot, found, stations, saying, value):
        wanted = is_right(world, found, stations, saying, value)
        self.same(self.told(is_plan, lot, stations, saying, value), wanted)
        return wanted

    def test_bent_plans(self):
        met = []
        for maker, world, sayings in cases(152, 8, most=3):
            lot, found = Lot(world.chart, sayings), world.skies_of(sayings)
            if found:
                stations = [world.region(maker) for _ in range(maker.randint(1, 3))]
                saying = world.saying(maker)
                plan = any_plan(maker, world, found, stations, saying, 2)
                if plan is not None:
                    self.same(self.check(world, lot, found, stations, saying, plan), True)
                    met += [self.check(world, lot, found, stations, saying, value) for value in bent(plan, stations)]
        self.assertGreater(met.count(False), 1000)
        self.assertGreater(met.count(True), 20)

    def test_plans_by_hand(self):
        lot, saying = example(), at_least(B, 7)
        stations = [C, D]
        settled = ("read", 1, ((5, ("never",)), (6, ("sure",))))
        behind = [("read", 1, ((5, ("never",)),)), ("read", 1, ((5, ("never",)), (6, ("sure",))))]
        # Reads on where it is settled already, and reads a station again.
        for plan in [settled, ("read", 0, ((3, ("never",)), (4, settled))),
                     ("read", 0, ((3, behind[0]), (4, behind[1]))),
                     ("read", 1, ((5, ("read", 1, ((5, ("never",)),))), (6, ("sure",)))),
                     ("read", 0, ((3, ("read", 0, ((3, ("never",)),))), (4, ("read", 0, ((4, settled),)))))]:
            self.same(is_plan(lot, stations, saying, plan), True)
        for plan in [("sure",), ("never",), ("open",), ("read", 0, ((3, ("never",)), (4, ("never",)))),
                     ("read", 0, ((3, ("never",)), (4, ("open",)))), ("read", 0, ((3, ("never",)),)),
                     ("read", 0, ((3, settled), (4, settled))), ("read", 1, ((6, ("sure",)), (5, ("never",))))]:
            self.same(is_plan(lot, stations, saying, plan), False)

    def test_four_readings(self):
        lot = example()
        plan = ("sure",)
        for depth in range(6):
            self.same([is_plan(lot, [D, A], at_least(B, 6), plan), plan_depth(plan)], [depth < 4, depth])
            # The same in each branch.
            plan = ("read", 0, ((5, plan), (6, plan))) if depth == 0 else (
                "read", 0, tuple((reading, again(reading, depth)) for reading in [5, 6]))

    def test_depth_in_a_branch(self):
        lot, five = example(), ("never",)
        for depth in range(5):
            plan = ("read", 0, ((5, five), (6, ("sure",))))
            self.same([is_plan(lot, [D], at_least(B, 7), plan), plan_depth(plan)], [depth < 3, depth + 1])
            five = ("read", 0, ((5, five),))

    def test_any_values(self):
        lot = example()
        for value in [*any_values(), "sure", ["sure"], ("sure", None), (("sure",),), ("read",), ("read", 0),
                      ("read", 0, 0), ("read", 0, ()), ("read", 0, (1,)), ("read", 0, (("sure",),)), lot, LOW,
                      (Sky(CHART),), ("read", Sky(CHART), ()), ("read", 0, ((Sky(CHART), ("sure",)),)),
                      (LOW, 0, ()), ("read", 0, ((5, ("sure",)), (6, Sky(CHART))))]:
            self.same(self.told(is_plan, lot, [D], at_least(B, 6), value), False)
        self.same([is_plan(lot, [D], at_least(B, 6), ("sure",)), is_plan(lot=lot, stations=[D], saying=at_most(
            C, 2), value=("never",))], [True, True])

    def test_numbers_that_are_no_readings(self):
        lot = Lot(Chart([[0]], top=1))
        right = ("read", 0, ((0, ("never",)), (1, ("sure",))))
        others = [("read", False, right[2]), ("read", 0, ((False, ("never",)), (True, ("sure",))))]
        self.same([is_plan(lot, [A], at_least(A, 1), plan) for plan in [right, *others]], [True, False, False])


def again(reading, depth):
    """A plan that reads the first station so often, always the same."""
    plan = ("sure",)
    for _ in range(depth):
        plan = ("read", 0, ((reading, plan),))
    return plan


class Followed(StationCase):
    def test_in_all_skies(self):
        met = []
        for maker, world, sayings in cases(153, 30, most=4):
            lot, found = Lot(world.chart, sayings), world.skies_of(sayings)
            stations = [world.region(maker) for _ in range(3)]
            saying = world.saying(maker)
            plan = find_plan(lot, stations, saying, most=3) if found else None
            if plan is not None:
                for at in maker.choices(world.all, k=20) + maker.choices(found, k=10):
                    met.append(self.check(world, plan, stations, saying, at, at in found))
        for word in ["sure", "never", None]:
            self.assertGreater(met.count(word), 30)

    def check(self, world, plan, stations, saying, at, is_of_lot):
        readings, missed, rest = [], None, plan
        while rest[0] == "read" and missed is None:
            height = world.height(at, stations[rest[1]])
            plans = [branch for reading, branch in rest[2] if reading == height]
            if plans:
                readings.append((rest[1], height))
                rest = plans[0]
            else:
                missed = height
        if missed is not None:
            self.same(is_of_lot, False)
            self.refused(NoBranch(missed), followed_plan, plan, stations, world.sky(at))
            return None
        self.same(followed_plan(plan, stations, world.sky(at)), (readings, rest[0]))
        if is_of_lot:
            self.same(rest[0], "sure" if world.keeps(at, saying) else "never")
        return rest[0]

    def test_an_example(self):
        lot = example()
        plan = find_plan(lot, [C, D], at_least(B, 7))
        self.same([followed_plan(plan, [C, D], lot.sky), followed_plan(plan=plan, stations=(C, D), sky=Sky(CHART, [(
            B[0], 6)]))], [([(1, 6)], "sure"), ([(1, 5)], "never")])
        for squalls, height in [([], 0), ([(D[0], 7)], 7), ([(D[0], 9)], 9)]:
            self.refused(NoBranch(height), followed_plan, plan, [C, D], Sky(CHART, squalls))
        self.same([followed_plan(("sure",), [A], Sky(CHART)), followed_plan(("never",), [A], Sky.full(CHART)),
                   plan_depth(("sure",)), plan_depth(plan=("never",)), plan_depth(plan)],
                  [([], "sure"), ([], "never"), 0, 0, 1])

    def test_branches_that_miss_within(self):
        chart = Chart([[1, 2]], [CALM_WIND], top=2)
        cells = [[(0, 0, 0)], [(0, 0, 1)]]
        saying = at_most(cells[0] + cells[1], 1)
        lot = Lot(chart, [at_least(cells[1], 1)])
        plan = find_plan(lot, cells, saying)
        self.same(plan_depth(plan), 2)
        self.refused(NoBranch(0), followed_plan, plan, cells, Sky(chart))
        for first in range(3):
            for second in range(3):
                sky = Sky(chart, [((0, 0, 0), first), ((0, 0, 1), second)])
                if second:
                    self.same(followed_plan(plan, cells, sky)[1], "sure" if max(first, second) < 2 else "never")

    def test_uneven_depths(self):
        lot = Lot(Chart([[1, 2]], top=2))
        one, other = [(0, 0, 0)], [(0, 0, 1)]
        plan = find_plan(lot, [one, other], at_most(one + other, 1))
        depths = sorted(plan_depth(rest) for _, rest in plan[2])
        self.same([depths, plan_depth(plan), possible_heights(lot, one)], [[0, 1, 1], 2, [0, 1, 2]])


class Errors(StationCase):
    def test_stations(self):
        self.refuses_stations(lambda lot, stations: find_plan(lot, stations, None, most=None))
        self.refuses_stations(lambda lot, stations: is_plan(lot, stations, None, None))

    def test_sayings(self):
        self.raises_for_one_saying(lambda lot, saying: find_plan(lot, [A, B], saying, most=4))
        self.raises_for_one_saying(lambda lot, saying: is_plan(lot, [A, B], saying, ("sure",)))

    def test_numbers(self):
        for lot in [example(), Lot(CHART, [under(A, A, -1)])]:
            for value in NO_DEPTHS:
                self.refused_by(InvalidNumber(value), find_plan, lot, [A], LOW, most=value)

    def test_without_a_sky(self):
        for most in range(4):
            self.raises_without_a_sky(lambda lot: find_plan(lot, [A, B], LOW, most=most))
        for value in [None, ("sure",), ("never",), ("read", 0, ())]:
            self.raises_without_a_sky(is_plan, [A, B], LOW, value)

    def test_order(self):
        lot = Lot(CHART, [at_least(A, 10)])
        for value in NO_LISTS:
            self.refused_by(InvalidStation(-1), find_plan, lot, value, OFF, most=7)
        self.refused_by(InvalidSaying(0), find_plan, lot, [A], None, most=7)
        self.refused_by(OffChart((2, 0, 0)), find_plan, lot, [A], OFF, most=7)
        self.refused_by(OffChart((2, 0, 0)), is_plan, lot, [A], level(A, [(2, 0, 0)], 1), ("sure",))
        self.refused_by(InvalidNumber(True), find_plan, lot, [A], exactly(A, 3), most=True)
        self.refused_by(InvalidNumber(-1), find_plan, lot, [A], squall_most(A[0], 3), most=-1)
