"""Logs that are followed line by line, right ones and bent ones."""

from highestsky.charts import Chart
from highestsky.errors import NotForced
from highestsky.logs import followed_log, log_walk
from highestsky.lots import Lot
from highestsky.lowering import is_forced, limit_at, lowered
from highestsky.sayings import at_least, at_most, exactly, if_then, level, squall_least, squall_most, under
from highestsky.skies import Sky
from tests.helpers import Case, any_values
from tests.worlds import CEILINGS, cases, lots, state

CHART = Chart([[0, 1]], [(0, 5, 2, 5, 3)])
A, B, C, D = [(0, 0, 0)], [(0, 0, 1)], [(1, 0, 0)], [(1, 0, 1)]
LOW, CALM, FIVE = at_most(C, 4), squall_most(D[0], 0), at_least(D, 5)
LESS, THEN = under(B, A, -2), if_then(D, 3, B, 3)


def example():
    return Lot(CHART, [LOW, CALM, FIVE, LESS, THEN, exactly(A, 3, gauge="a"), level(A, C, 0)])


def walked(lot, lines):
    """The skies behind each line, and the index of the first wrong one or None."""
    found = []
    walk = log_walk(lot, lines)
    while True:
        try:
            found.append(next(walk))
        except StopIteration:
            return found, None
        except NotForced as fault:
            return found, fault.at


def followed(lot, lines):
    """What the words of [21] say of any list: the bounds behind each line, and the index of the first wrong one."""
    bounds, found = Sky.full(lot.chart), []
    for at, line in enumerate(lines):
        right = isinstance(line, tuple) and len(line) == 2 and [part for part in lot.parts() if part == line[0]]
        if not right or line[0].kind not in CEILINGS or type(line[1]) is not int or not is_forced(bounds, *line):
            return found, at
        bounds = lowered(bounds, line[0], min(line[1], 9999))
        found.append(bounds)
    return found, None


class LogCase(Case):
    def check(self, lot, lines):
        """Compares both functions with the words; returns the index of the first wrong line."""
        before = state(lot)
        wanted, fault = followed(lot, lines)
        found, at = walked(lot, lines)
        self.same([sky.squalls() for sky in found], [sky.squalls() for sky in wanted])
        self.same(at, fault)
        if fault is None:
            last = wanted[-1] if wanted else Sky.full(lot.chart)
            self.same(followed_log(lot, lines) == last, True)
            self.same(followed_log(lot, tuple(lines)) == last, True)
        else:
            self.refused(NotForced(fault), followed_log, lot, lines)
            self.refused(NotForced(fault), followed_log, lot, tuple(lines))
        self.same(state(lot), before)
        return fault


class ToldLogs(LogCase):
    def test_the_highest_sky(self):
        for _, world, lot in lots(30, 40, most=6):
            lines = lot.lines()
            self.assertIsNone(self.check(lot, lines))
            bounds = followed_log(lot=lot, lines=lines)
            if lot.sky is None:
                self.assertTrue([part for part in lot.parts() if part.kind == "under" and limit_at(bounds, part) < 0])
            else:
                self.same(bounds == lot.sky, True)

    def test_each_line_lowers_to_its_limit(self):
        for _, world, lot in lots(31, 40, most=6):
            bounds = Sky.full(world.chart)
            for line, (ceiling, limit) in zip(lot.lines(), lot.lines(), strict=True):
                self.same([type(line), limit, limit >= 0], [tuple, limit_at(bounds, ceiling), True])
                after = lowered(bounds, ceiling, limit)
                self.same([after.is_below(bounds), after == bounds, ceiling in lot.parts()], [True, False, True])
                bounds = after

    def test_behind_each_change(self):
        for maker, world, lot in lots(32, 10):
            for _ in range(3):
                if len(lot) and maker.random() < 0.5:
                    lot.take_back(maker.randrange(len(lot)))
                else:
                    lot.put(world.saying(maker))
                self.assertIsNone(self.check(lot, lot.lines()))

    def test_no_line(self):
        for lot in [example(), Lot(CHART), Lot(CHART, [under(A, A, -3)])]:
            for lines in [[], ()]:
                self.same(followed_log(lot, lines) == Sky.full(CHART), True)
                self.same(list(log_walk(lot, lines)), [])


class BentLogs(LogCase):
    def test_bent_lines(self):
        found = []
        for maker, world, lot in lots(33, 40, most=6):
            lines = lot.lines()
            if lines:
                at = maker.randrange(len(lines))
                ceiling, limit = lines[at]
                other = maker.choice(lot.parts())
                for changed in [(ceiling, limit - 1), (ceiling, limit + 1), (ceiling, limit + 9999), (other, limit),
                                (other, 0),
                                (ceiling.with_gauge("z"), limit), (ceiling, None), (ceiling,), (ceiling, limit, limit),
                                [ceiling, limit]]:
                    found.append(self.check(lot, [*lines[:at], changed, *lines[at + 1:]]))
                found.append(self.check(lot, [*lines[:at], *lines[at + 1:]]))
                found.append(self.check(lot, [*lines[:at], (other, world.chart.top), *lines[at:]]))
                found.append(self.check(lot, [*lines, *lines]))
                found.append(self.check(lot, lines[::-1]))
                found.append(self.check(lot, maker.sample(lines, len(lines))))
        self.assertGreater(found.count(None), 100)
        self.assertGreater(len(found) - found.count(None), 100)

    def test_the_limit_of_a_line(self):
        lot = example()
        for limit in [4, 5, 8, 9, 10, 99, 9999, 10000, 999999999]:
            self.same(self.check(lot, [(LOW, limit)]), None)
            self.same(followed_log(lot, [(LOW, limit)]) == (Sky.full(CHART) if limit > 8 else lowered(Sky.full(CHART),
                                                                                                      LOW, limit)),
                                                                                                      True)
        for limit in [3, 0, -1, -999999999]:
            self.same(self.check(lot, [(LOW, limit)]), 0)

    def test_a_limit_that_falls(self):
        lot = example()
        # At the full sky the limit is 7, and behind the first line it is 2.
        self.same(self.check(lot, [(LESS, 7), (LESS, 7)]), None)
        self.same(self.check(lot, [(LESS, 6)]), 0)
        self.same(self.check(lot, [(LOW, 4), (LESS, 2), (LESS, 1)]), 2)
        self.same(self.check(lot, [(LESS, 2)]), 0)
        self.same(self.check(lot, [(THEN, 2)]), 0)
        self.same(self.check(lot, [(LOW, 4), (LESS, 2), (THEN, 2), (THEN, 2)]), None)
        self.same(self.check(lot, [(LOW, 4), (LESS, 3), (THEN, 2)]), 2)

    def test_a_limit_below_zero(self):
        lot = Lot(CHART, [at_most(A, 0), under(B, A, -2)])
        for limit in [0, 3, 9]:
            self.same(self.check(lot, [(at_most(A, 0), 0), (under(B, A, -2), limit)]), None)
        self.same(self.check(lot, [(at_most(A, 0), 0), (under(B, A, -2), -1)]), 1)
        self.same(self.check(lot, [(at_most(A, 0), 0), (under(B, A, -2), -2)]), 1)

    def test_lines_that_lower_nothing(self):
        lot = example()
        lines = [(LOW, 4), (LOW, 4), (LOW, 9), (CALM, 0), (CALM, 3), (LESS, 2)]
        self.same(self.check(lot, lines), None)
        self.same([len(sky) for sky in log_walk(lot, lines)], [4, 4, 4, 3, 3, 3])

    def test_what_is_no_part(self):
        lot = example()
        for saying in [at_most(C, 3), at_most(A, 4), at_most(C + D, 4), LOW.with_gauge("a"), at_most(A, 3),
                       exactly(A, 3, gauge="a"),
                       level(A, C, 0), squall_most(C[0], 0), under(A, B, -2), under(C, C, 0), if_then(D, 3, B, 2),
                       at_most([(2, 0, 0)], 4)]:
            for limit in [99, 9, 0]:
                self.same(self.check(lot, [(LOW, 4), (saying, limit), (LOW, 4)]), 1)
        for saying in [at_most(A, 3, gauge="a"), under(A, C, 0), under(C, A, 0), at_most([*C, *C], 4)]:
            self.same(self.check(lot, [(saying, 99)]), None)
        for floor in [FIVE, at_least(A, 3, gauge="a"), squall_least(A[0], 1)]:
            for limit in [99, 9, 5, 3, 0]:
                self.same(self.check(Lot(CHART, [*lot.sayings(), squall_least(A[0], 1)]), [(floor, limit)]), 0)

    def test_what_is_no_line(self):
        lot = example()
        for value in [*any_values(), LOW, (LOW,), (LOW, 4, 4), [LOW, 4], (4, LOW), (LOW, "4"), (LOW, True),
                      (LOW, None), (LOW, (4,)),
                      (LOW, LOW), ("atmost", 4), (LOW.text(), 4), ((LOW, 4),), lot, Sky(CHART)]:
            self.same(self.check(lot, [value]), 0)
            self.same(self.check(lot, [(LOW, 4), (CALM, 0), value, (LOW, 4), None]), 2)

    def test_true_is_no_number(self):
        lot = Lot(CHART, [at_most(A, 0), at_most(B, 1)])
        self.same([self.check(lot, [(at_most(A, 0), False)]), self.check(lot, [(at_most(B, 1), True)])], [0, 0])
        self.same([self.check(lot, [(at_most(A, 0), 0)]), self.check(lot, [(at_most(B, 1), 1)])], [None, None])

    def test_no_list(self):
        for value in [value for value in any_values() if not isinstance(value, (list, tuple))] + [LOW, example(), {}]:
            self.refused(NotForced(-1), followed_log, example(), value)

    def test_a_line_alone_is_a_list_of_no_lines(self):
        self.refused(NotForced(0), followed_log, example(), (LOW, 4))


class Walks(LogCase):
    def test_the_error_comes_with_its_item(self):
        lot = example()
        walk = log_walk(lot, [(LOW, 4), (LOW, 4), (LOW, 3), (CALM, 0)])
        self.same(next(walk).squalls(), [(A[0], 4), (B[0], 7), (C[0], 4), (D[0], 9)])
        self.same(len(next(walk)), 4)
        self.refused(NotForced(2), next, walk)
        self.same(list(walk), [])

    def test_nothing_is_raised_before(self):
        walk = log_walk(lot=example(), lines=[None])
        self.refused(NotForced(0), next, walk)

    def test_skies_stay(self):
        lot = example()
        skies = list(log_walk(lot, ((LOW, 4), (CALM, 0), (LESS, 2))))
        self.same([sky.squalls() for sky in skies], [
            [(A[0], 4), (B[0], 7), (C[0], 4), (D[0], 9)], [(A[0], 4), (B[0], 7), (C[0], 4)],
            [(A[0], 4), (B[0], 2), (C[0], 4)]])
        self.same([sky.chart == CHART for sky in skies], [True] * 3)

    def test_highest_skies_are_below(self):
        for _, world, sayings in cases(34, 15):
            lot = Lot(world.chart, sayings)
            if lot.sky is not None:
                for sky in log_walk(lot, lot.lines()):
                    self.same(lot.sky.is_below(sky), True)

    def test_a_long_log(self):
        cell = [(0, 0, 0)]
        lot = Lot(Chart([[0]], top=99), [under(cell, cell, -1)])
        self.same([len(lot.lines()), [limit for _, limit in lot.lines()]], [99, list(range(98, -1, -1))])
        self.same(followed_log(lot, lot.lines()).squalls(), [])
        self.same([sky.height(cell[0]) for sky in log_walk(lot, lot.lines())], list(range(98, -1, -1)))
