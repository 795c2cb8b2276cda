"""The office: its deeds with all of their errors, and what it tells behind them."""

import random
from unittest import mock

from highestsky.charts import Chart
from highestsky.errors import (
    Ended, InvalidDeed, InvalidNumber, InvalidSaying, OffChart, TooMany, UnknownReport, UnknownWatch,
)
from highestsky.lots import Lot
from highestsky.office import Office
from highestsky.sayings import at_least, at_most, exactly, if_then, level, squall_least, squall_most, under
from highestsky.skies import Sky
from highestsky.states import state_behind
from tests.helpers import CALM_WIND, any_values
from tests.offices import Model, OfficeCase, Picture, shown
from tests.test_verdicts import CHART, A, B, C, CALM, D, FIVE, LOW, OFF
from tests.worlds import WORLDS, state

LONG = Chart([[0, 1]], [(0, 5, 2, 5, 3), CALM_WIND, (1, 0, 1, 0, 0)])

# What has not the form of a deed.
NO_DEEDS = [*any_values(), "hour", ["hour"], ("Hour",), ("",), ("hour", 1), ("hour", None), ("publish", ()),
            ("report",),
            ("report", LOW, 1), ("watch",), ("watch", LOW, LOW), ("withdraw",), ("withdraw", 0, 0),
            ("drop",), ("drop", 0, 0), (("hour",),), (["hour"],), (None,), (LOW,), (LOW, "report"), ["report", LOW],
            LOW,
            (True,), ("undo",), ("redo",), ("do",), ("hour ",), {"hour": 1}, ({"hour": 1},), Lot(CHART),
            (Sky(CHART), LOW)]


def worked():
    """An office that has seen a deed of each kind."""
    office = Office(LONG)
    office.do(("report", LOW), ("report", CALM), ("watch", at_most(D, 6)), ("publish",))
    office.do(("hour",), ("report", FIVE), ("watch", at_least(B, 7)), ("publish",))
    office.do(("hour",))
    office.do(("withdraw", 1), ("watch", LOW), ("drop", 0), ("publish",))
    return office


class Deeds(OfficeCase):
    def test_a_new_office(self):
        for office in [Office(CHART), Office(chart=CHART)]:
            self.check_office(office, Picture(CHART, []), (0, 0), 0)
            self.same([office.chart == CHART, office.log(), office.verdicts(), Office.WATCHES, Office.DRAFTS],
                      [True, [], [], 12, 3])

    def test_a_deed_of_each_kind(self):
        office = worked()
        journal = [("report", LOW), ("report", CALM), ("watch", at_most(D, 6)), ("publish",), ("hour",),
                   ("report", FIVE), ("watch", at_least(B, 7)), ("publish",), ("hour",), ("withdraw", 1),
                   ("watch", LOW), ("drop", 0), ("publish",)]
        self.check_office(office, Picture(LONG, journal), (4, 0), 0)
        self.same([office.verdicts(), [number for number, _ in office.standing()], office.now],
                  [["open", "sure"], [0, 2], 2])
        self.same([told[:2] for told in office.bulletins()],
                  [(0, ("sure",)), (1, ("sure", "open")), (2, ("open", "sure"))])
        self.same(office.bulletins()[0], (0, ("sure",), (((0, 0), 4), ((0, 1), 7))))

    def test_calls_return_nothing(self):
        office = Office(CHART)
        for call in [lambda: office.do(), lambda: office.do(("publish",)), office.undo, office.redo, office.open_draft,
                     office.keep_draft, office.open_draft, office.give_up]:
            self.assertIsNone(call())

    def test_numbers_of_reports(self):
        office = Office(LONG)
        office.do(("report", LOW), ("report", CALM))
        office.do(("withdraw", 0))
        office.do(("report", LOW))
        office.do(("withdraw", 1), ("report", LOW), ("withdraw", 2), ("hour",), ("report", FIVE))
        self.same([number for number, _ in office.standing()], [3, 4])
        self.same(office.lot().text(), LOW.text() + "\n" + FIVE.text() + "\n")
        for number in [0, 1, 2, 5]:
            self.refused_office(UnknownReport(number), office, office.do, ("withdraw", number))
        office.undo()
        office.do(("report", CALM))
        self.same([number for number, _ in office.standing()], [1, 2, 3])

    def test_the_same_saying_twice(self):
        office = Office(CHART)
        office.do(("report", LOW), ("report", LOW), ("watch", LOW), ("watch", LOW), ("withdraw", 0), ("drop", 1))
        self.same([[number for number, _ in office.standing()], office.verdicts()], [[1], ["sure"]])
        office.do(("withdraw", 1))
        self.same([len(office), office.verdicts(), office.lot() == Lot(CHART)], [0, ["open"], True])

    def test_bulletins_stay(self):
        office = Office(LONG)
        office.do(("report", LOW), ("watch", at_most(C, 4)), ("publish",))
        before = office.bulletins()
        office.do(("withdraw", 0), ("drop", 0), ("watch", at_most(C, 3)), ("hour",), ("report", at_most(A, 0)))
        self.same(office.bulletins(), before)
        office.do(("publish",))
        self.same([office.bulletins()[:1], len(office.bulletins())], [before, 2])
        self.same([type(office.bulletins()[1]), type(office.bulletins()[1][1]), type(office.bulletins()[1][2])],
                  [tuple] * 3)

    def test_known_lots_of_earlier_hours_stay(self):
        office = Office(LONG)
        office.do(("report", LOW), ("report", CALM), ("hour",), ("withdraw", 0), ("report", FIVE), ("withdraw", 2))
        known = [state(office.known_lot(hour)) for hour in range(2)]
        self.same([office.known_lot(hour=0) == Lot(LONG, [LOW, CALM]), office.known_lot(1) == Lot(LONG, [CALM])],
                  [True, True])
        office.do(("hour",), ("withdraw", 1), ("report", at_most(A, 0)), ("hour",), ("report", LOW))
        self.same([state(office.known_lot(hour)) for hour in range(2)], known)
        self.same([office.known_lot(2) == Lot(LONG, [at_most(A, 0)]), office.known_lot(3) == office.lot()],
                  [True, True])
        for hour in [-1, 4, 5, *[value for value in any_values() if type(value) is not int], "0", [0]]:
            self.refused_office(InvalidNumber(hour), office, office.known_lot, hour)
        self.refused(InvalidNumber(1), Office(LONG).known_lot, 1)

    def test_the_facts_of_bulletins(self):
        maker = random.Random(240)
        for world in WORLDS:
            for _ in range(10):
                office = Office(world.chart)
                for _ in range(4):
                    office.do(("watch", world.saying(maker)))
                ahead, heights = office.verdicts(), office.lot().sky.heights()
                for _ in range(6):
                    saying = world.saying(maker)
                    if office.lot().with_sayings([saying]).can_be:
                        office.do(("report", saying))
                        told, later = office.verdicts(), office.lot().sky.heights()
                        self.same([pair for pair in zip(ahead, told) if pair[0] != "open" and pair[0] != pair[1]], [])
                        self.same([place for place in heights if later[place] > heights[place]], [])
                        ahead, heights = told, later


class Errors(OfficeCase):
    def offices(self):
        office = worked()
        office.open_draft()
        office.do(("watch", LOW))
        office.undo()
        return [Office(CHART), worked(), office]

    def test_reports(self):
        for office in self.offices():
            for value in [*any_values(), LOW.text(), [LOW], (LOW,), office]:
                self.refused_office(InvalidSaying(0), office, office.do, ("report", value))
            self.refused_office(OffChart((4, 0, 0)), office, office.do, ("report", level(A, [(5, 0, 0), (4, 0, 0)], 1)))
            self.refused_office(OffChart((0, 1, 0)), office, office.do,
                                ("report", if_then([(0, 1, 0)], 1, [(8, 0, 0)], 1)))
            self.same(self.impossible(office, office.do, ("report", at_least(A, 10))), [])
            self.same(self.impossible(office, office.tried, ("report", under(A, A, -1))), [])

    def test_impossible(self):
        office = Office(CHART)
        office.do(("report", at_most(A, 9)), ("report", LOW), ("report", CALM), ("report", LOW), ("withdraw", 1),
                  ("report", FIVE), ("report", squall_most(A[0], 8)))
        self.same(self.impossible(office, office.do, ("report", at_most(B, 5))), [2, 3, 4])
        self.same(self.impossible(office, office.do, ("report", exactly(C, 5))), [3])
        self.same(self.impossible(office, office.do, ("report", squall_least(D[0], 1))), [2])
        self.same(self.impossible(office, office.do, ("withdraw", 3), ("report", at_least(C, 7)), ("report", at_most(
            C, 6))), [6])

    def test_random_impossible_reports(self):
        maker, met = random.Random(241), []
        for world in WORLDS:
            for _ in range(60):
                office = Office(world.chart)
                for _ in range(maker.randint(1, 8)):
                    saying = world.saying(maker)
                    if office.lot().with_sayings([saying]).can_be:
                        office.do(("report", saying))
                        if maker.random() < 0.2:
                            office.do(("withdraw", maker.choice(office.standing())[0]))
                    else:
                        met.append(len(self.impossible(office, office.do, ("report", saying))))
        for many in [0, 1, 2]:
            self.assertGreater(met.count(many), 10)
        self.assertGreater(max(met), 2)

    def test_withdrawals(self):
        for office in self.offices():
            numbers = [number for number, _ in office.standing()]
            for value in [-1, 100, *[value for value in any_values() if type(value) is not int], "0", [0], (0,), LOW,
                          *[number for number in range(6) if number not in numbers]]:
                self.refused_office(UnknownReport(value), office, office.do, ("withdraw", value))

    def test_hours(self):
        office = Office(Chart([[0]]))
        self.refused_office(Ended(), office, office.do, ("hour",))
        office = worked()
        office.do(("hour",))
        self.refused_office(Ended(), office, office.do, ("hour",))
        office.undo()
        self.refused_office(Ended(), office, office.do, ("hour",), ("publish",), ("hour",))
        self.same(office.now, 2)

    def test_watches(self):
        for office in self.offices():
            for value in [*any_values(), LOW.text(), [LOW], office]:
                self.refused_office(InvalidSaying(0), office, office.do, ("watch", value))
            self.refused_office(OffChart((4, 0, 0)), office, office.do, ("watch", level(A, [(5, 0, 0), (4, 0, 0)], 1)))
            many = len(office.watched())
            for value in [-1, many, many + 1, *[value for value in any_values() if type(value) is not int], "0", [0],
                          LOW]:
                self.refused_office(UnknownWatch(value), office, office.do, ("drop", value))

    def test_twelve_and_thirteen_watches(self):
        office = Office(CHART)
        office.do(*[("watch", at_most(A, number)) for number in range(11)])
        self.refused_office(TooMany(12), office, office.do, ("watch", LOW), ("watch", LOW))
        office.do(("watch", LOW))
        self.refused_office(TooMany(12), office, office.do, ("watch", LOW))
        self.refused_office(OffChart((2, 0, 0)), office, office.do, ("watch", OFF))
        self.refused_office(InvalidSaying(0), office, office.do, ("watch", None))
        office.do(("drop", 0), ("watch", CALM))
        self.same([str(saying) for saying in office.watched()[-2:]], [str(LOW), str(CALM)])
        # Even what can never be is watched.
        office.do(("drop", 11), ("watch", at_least(A, 100)))
        self.same([len(office.verdicts()), office.verdicts()[-1], len(office.watched())], [12, "never", 12])

    def test_sixty_and_sixty_one_reports(self):
        office = Office(CHART)
        office.do(*[("report", LOW)] * 59)
        self.refused_office(TooMany(60), office, office.do, ("report", LOW), ("report", LOW))
        office.do(("report", CALM))
        for saying, error in [(LOW, TooMany(60)), (at_least(A, 10), TooMany(60)), (OFF, OffChart((2, 0, 0))),
                              (None, InvalidSaying(0))]:
            self.refused_office(error, office, office.do, ("report", saying))
        office.do(("withdraw", 7), ("report", FIVE))
        self.same([len(office), office.standing()[-1][0], office.lot().can_be], [60, 60, True])
        self.refused_office(TooMany(60), office, office.do, ("report", LOW))
        self.same(len(office.known_lot(0)), 60)

    def test_no_deeds(self):
        for office in self.offices():
            for value in NO_DEEDS:
                self.refused_office(InvalidDeed(0), office, office.do, value)
                self.refused_office(InvalidDeed(2), office, office.do, ("hour",), ("publish",), value, None)
                self.refused_office(InvalidDeed(1), office, office.tried, ("report", None), value)
            for deed in [("report", None), ("report", OFF), ("withdraw", -1), ("drop", 99), ("watch", 1),
                         ("report", at_least(A, 10))]:
                self.refused_office(InvalidDeed(3), office, office.do, ("publish",), deed, deed, ("end",))

    def test_one_wrong_deed_among_several(self):
        wrong = [(("report", None), InvalidSaying(0)), (("report", OFF), OffChart((2, 0, 0))),
                 (("withdraw", 9), UnknownReport(9)), (("watch", OFF), OffChart((2, 0, 0))),
                 (("drop", 9), UnknownWatch(9))]
        right = [("report", LOW), ("watch", CALM), ("publish",), ("hour",), ("withdraw", 0), ("drop", 0)]
        for deed, error in wrong:
            for at in range(len(right) + 1):
                office = Office(CHART)
                office.do(("watch", FIVE))
                office.undo()
                for call in [office.do, office.tried]:
                    self.refused_office(error, office, call, *right[:at], deed, *right[at:])
                    self.refused_office(error, office, call, *right[:at], deed, ("withdraw", 8), *right[at:])
        office = Office(CHART)
        self.refused_office(Ended(), office, office.do, *right, ("hour",), ("report", None))
        self.same(self.impossible(office, office.do, *right, ("report", LOW), ("report", at_least(A, 5))), [1])


class Busy(OfficeCase):
    """Whether deeds are being done, asked while they are, and behind each call."""

    def watched(self, office, seen, wrong=None):
        def behind(present, deeds):
            seen.append([office.busy, office.history()])
            if wrong is not None:
                raise wrong
            return state_behind(present, deeds)
        return mock.patch("highestsky.office.state_behind", behind)

    def test_busy(self):
        office, seen = worked(), []
        with self.watched(office, seen):
            for call in [office.do, office.tried]:
                call(("publish",))
                self.same(office.busy, False)
                self.refused_office(InvalidDeed(0), office, call, None)
                self.refused_office(UnknownReport(9), office, call, ("publish",), ("withdraw", 9))
        self.same(seen, [[True, (4, 0)]] + [[True, (5, 0)]] * 5)

    def test_any_error(self):
        for wrong in [ValueError("x"), ZeroDivisionError("x"), RecursionError("x"), KeyError("x")]:
            office, seen = worked(), []
            before = shown(office)
            with self.watched(office, seen, wrong):
                for call in [office.do, office.tried]:
                    with self.assertRaises(type(wrong)):
                        call(("publish",))
                    self.same(office.busy, False)
            self.same([shown(office), len(seen)], [before, 2])


class Tried(OfficeCase):
    def test_tried(self):
        for office in [Office(CHART), worked()]:
            for depth in range(3):
                before = shown(office)
                self.same(office.tried(), office.text())
                deeds = [("report", at_most(A, 8)), ("watch", LOW), ("publish",)]
                told = office.tried(*deeds)
                self.same(shown(office), before)
                twin = office.twin()
                twin.do(*deeds)
                self.same([told, told == office.text()], [twin.text(), False])
                office.open_draft()
                office.do(("watch", at_most(B, depth)))

    def test_what_can_be_redone_stays(self):
        office = worked()
        office.undo()
        before = office.history()
        office.tried(("publish",))
        self.refused_office(Ended(), office, office.tried, ("hour",), ("hour",), ("hour",))
        self.same(office.history(), before)
        office.redo()
        self.same(office.text(), worked().text())


class Comparing(OfficeCase):
    def test_equal(self):
        self.same([worked() == worked(), worked() != worked(),
                   Office(CHART) == Office(Chart(CHART.rows(), CHART.winds()))],
                  [True, False, True])
        office = worked()
        office.open_draft()
        office.say("now")
        self.same(office == worked(), True)
        # By other deeds to the same state.
        office, other = Office(CHART), Office(CHART)
        office.do(("watch", LOW), ("report", CALM))
        other.do(("report", CALM))
        other.do(("watch", CALM), ("drop", 0), ("watch", LOW))
        self.same([office == other, office.text() == other.text(), office.journal() == other.journal()],
                  [True, False, False])

    def test_unequal(self):
        for deed in [("hour",), ("publish",), ("report", LOW), ("watch", LOW), ("withdraw", 0), ("drop", 0)]:
            office, other = worked(), worked()
            other.do(deed)
            self.same([office == other, office != other], [False, True])
        for other in [Office(CHART), None, 3, "x", CHART, Lot(CHART), LOW, [], worked().text()]:
            self.same([worked() == other, Office(LONG) == other, worked() != other], [False, False, True])
        # The same sayings with other numbers.
        office, other = Office(CHART), Office(CHART)
        office.do(("report", LOW))
        other.do(("report", LOW), ("report", LOW), ("withdraw", 0))
        self.same(office == other, False)
        # Hours of arrival are not compared.
        office, other = Office(CHART), Office(CHART)
        office.do(("report", LOW), ("hour",))
        other.do(("hour",), ("report", LOW))
        self.same(office == other, True)

    def test_what_is_changed_afterwards(self):
        office = worked()
        office.say("now")
        before = shown(office)
        for told in [office.standing(), office.watched(), office.verdicts(), office.bulletins(), office.journal(),
                     office.log()]:
            told.append(None)
        office.lot().put(at_most(A, 0))
        office.known_lot(1).put(at_most(A, 0))
        self.same(shown(office), before)


class Random(OfficeCase):
    """Offices that are worked at random, beside a picture of each."""

    def deed(self, maker, world, picture):
        word = maker.choice(["report", "report", "report", "withdraw", "hour", "watch", "watch", "drop", "publish"])
        if word in ("report", "watch"):
            return (word, world.saying(maker))
        if word in ("withdraw", "drop"):
            many = len(picture.reports) if word == "withdraw" else len(picture.watched)
            return (word, maker.choice([maker.randint(-1, many), maker.randint(0, max(0, many - 1)), True, None]))
        return (word,)

    def test_at_random(self):
        maker, met = random.Random(242), {}
        for world in [world for world in WORLDS if world.chart.last] + WORLDS[:2]:
            for _ in range(4):
                self.work(maker, world, met)
        for word in ["done", "undo", "redo", "open", "keep", "give_up", "TooMany", "NoDraft", "NothingLeft",
                     "Impossible", "UnknownReport", "UnknownWatch", "Ended", "InvalidDeed"]:
            self.assertGreater(met.get(word, 0), 2, word)

    def work(self, maker, world, met):
        office, model = Office(world.chart), Model(world.chart)
        for _ in range(60):
            word = self.act(maker, world, office, model)
            met[word] = met.get(word, 0) + 1
            self.check_office(office, model.picture(), model.history(), len(model.levels) - 1)

    def act(self, maker, world, office, model):
        act = maker.choice(["do"] * 8 + ["undo", "undo", "redo", "redo", "open", "keep", "give_up", "none"])
        if act == "do":
            return self.do(maker, world, office, model)
        if act in ("undo", "redo"):
            sides = ("past", "coming") if act == "undo" else ("coming", "past")
            return self.expect(model.shift(*sides), act, getattr(office, act), "NothingLeft")
        if act == "open":
            allowed = len(model.levels) <= 3
            if allowed:
                model.open()
            return self.expect(allowed, act, office.open_draft, "TooMany")
        if act in ("keep", "give_up"):
            allowed = len(model.levels) > 1
            if allowed:
                getattr(model, act)()
            return self.expect(allowed, act, office.keep_draft if act == "keep" else office.give_up, "NoDraft")
        office.do()
        return "none"

    def expect(self, allowed, act, call, code):
        if allowed:
            call()
            return act
        with self.assertRaises((ValueError, LookupError, IndexError)) as caught:
            call()
        self.same(caught.exception.code, code)
        return code

    def do(self, maker, world, office, model):
        picture = model.picture()
        deeds = [self.deed(maker, world, picture) for _ in range(maker.choice([1, 1, 2, 3]))]
        if maker.random() < 0.05:
            deeds.insert(maker.randint(0, len(deeds)), maker.choice([None, ("end",), ("hour", 0), []]))
        wrong = model.wrong(deeds)
        if wrong is None:
            tried = office.tried(*deeds)
            office.do(*deeds)
            model.do(deeds)
            self.same(office.text(), tried)
            return "done"
        if wrong.code == "Impossible":
            at = next(at for at in range(len(deeds)) if model.wrong(deeds[:at + 1]) is not None)
            self.impossible(office, office.do, *deeds[:at + 1])
        else:
            self.refused(wrong, office.do, *deeds)
            self.refused(wrong, office.tried, *deeds)
        return wrong.code
