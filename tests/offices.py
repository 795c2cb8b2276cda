"""A plain picture of an office, in which each state is worked out anew from the deeds that have led to it."""

from highestsky.errors import (
    Ended, Impossible, InvalidDeed, InvalidSaying, OffChart, TooMany, UnknownReport, UnknownWatch,
)
from highestsky.lots import Lot
from highestsky.sayings import Saying
from highestsky.verdicts import verdict
from tests.helpers import Case
from tests.worlds import state

SIZES = {"report": 2, "withdraw": 2, "hour": 1, "watch": 2, "drop": 2, "publish": 1}


class Picture:
    """The state of an office behind the deeds of a journal, all of which must be right."""

    def __init__(self, chart, journal):
        self.chart, self.journal = chart, list(journal)
        self.now, self.reports, self.watched, self.bulletins = 0, [], [], []
        for deed in journal:
            self.do(*deed)

    def do(self, word, item=None):
        if word == "report":
            self.reports.append([item, self.now, None])
        elif word == "withdraw":
            self.reports[item][2] = self.now
        elif word == "hour":
            self.now += 1
        elif word == "watch":
            self.watched.append(item)
        elif word == "drop":
            del self.watched[item]
        else:
            sky = self.lot().sky
            self.bulletins.append((self.now, tuple(self.verdicts()), tuple(
                (cell, sky.height((self.now, *cell))) for cell in self.chart.cells())))

    def standing(self):
        return [(number, report[0]) for number, report in enumerate(self.reports) if report[2] is None]

    def lot(self):
        return Lot(self.chart, [saying for _, saying in self.standing()])

    def verdicts(self):
        return [verdict(self.lot(), saying) for saying in self.watched]

    def known_lot(self, hour):
        return Lot(self.chart, [saying for saying, come, gone in self.reports
                                if come <= hour and not (gone is not None and gone <= hour)])

    def text(self):
        lines = []
        for deed in self.journal:
            lines.append(" ".join(item.text() if isinstance(item, Saying) else str(item) for item in deed) + "\n")
        return self.chart.text() + "".join(lines) + "end\n"

    def wrong(self, word, item=None):
        """The error of a deed in this state, by the words of [43]; None if it is right."""
        if word in ("report", "watch"):
            if not isinstance(item, Saying):
                return InvalidSaying(0)
            off = [place for region in item.regions() for place in region if place not in self.chart.places()]
            if off:
                return OffChart(off[0])
            if word == "watch":
                return TooMany(12) if len(self.watched) == 12 else None
            if len(self.standing()) == 60:
                return TooMany(60)
            return None if self.lot().with_sayings([item]).can_be else Impossible(None)
        if word == "withdraw":
            known = type(item) is int and item in [number for number, _ in self.standing()]
            return None if known else UnknownReport(item)
        if word == "drop":
            return None if type(item) is int and 0 <= item < len(self.watched) else UnknownWatch(item)
        return Ended() if word == "hour" and self.now == self.chart.last else None


class Model:
    """An office with its history and its drafts, as lists of journals."""

    def __init__(self, chart):
        self.chart = chart
        self.levels = [{"present": [], "past": [], "coming": []}]

    def top(self):
        return self.levels[-1]

    def picture(self):
        return Picture(self.chart, self.top()["present"])

    def wrong(self, deeds):
        """The error of a call with deeds, or None."""
        for at, deed in enumerate(deeds):
            if type(deed) is not tuple or not deed or type(deed[0]) is not str or SIZES.get(deed[0]) != len(deed):
                return InvalidDeed(at)
        picture = self.picture()
        for deed in deeds:
            wrong = picture.wrong(*deed)
            if wrong is not None:
                return wrong
            picture = Picture(self.chart, [*picture.journal, deed])
        return None

    def do(self, deeds):
        if deeds:
            self.step([*self.top()["present"], *deeds])

    def step(self, journal):
        self.top()["past"].append(self.top()["present"])
        self.top()["present"], self.top()["coming"] = journal, []

    def shift(self, source, target):
        """Undoes, from the past, or redoes, from what is coming; whether there was something."""
        if not self.top()[source]:
            return False
        self.top()[target].append(self.top()["present"])
        self.top()["present"] = self.top()[source].pop()
        return True

    def open(self):
        self.levels.append({"present": self.top()["present"], "past": [], "coming": []})

    def keep(self):
        draft = self.levels.pop()
        if draft["past"]:
            self.step(draft["present"])

    def give_up(self):
        self.levels.pop()

    def history(self):
        return (len(self.top()["past"]), len(self.top()["coming"]))


def shown(office):
    """All that an office tells, which is to be the same behind a call that changes nothing."""
    return [office.chart.text(), office.now, state(office.lot()), [(number, str(saying)) for number, saying
                                                                   in office.standing()],
            [str(saying) for saying in office.watched()], office.verdicts(), office.bulletins(),
            [state(office.known_lot(hour)) for hour in range(office.now + 1)], office.text(), office.history(),
            office.depth, office.busy, office.log(), len(office), bool(office), repr(office),
            [[str(item) for item in deed] for deed in office.journal()]]


class OfficeCase(Case):
    def refused_office(self, wanted, office, call, *args, **named):
        before = shown(office)
        self.refused(wanted, call, *args, **named)
        self.same([shown(office), office.busy], [before, False])

    def impossible(self, office, call, *deeds):
        """Checks that a call raises Impossible with a right core for the last of its deeds; the core."""
        before = shown(office)
        twin = office.twin()
        twin.do(*deeds[:-1])
        standing, saying = dict(twin.standing()), deeds[-1][1]
        with self.assertRaises(Impossible) as caught:
            call(*deeds)
        found = caught.exception.core
        self.same([type(found), found, caught.exception.code], [list, sorted(set(found)), "Impossible"])
        self.same([number for number in found if number not in standing], [])
        said = [standing[number] for number in found]
        self.same(Lot(office.chart, [*said, saying]).can_be, False)
        for at in range(len(said)):
            self.same(Lot(office.chart, [*said[:at], *said[at + 1:], saying]).can_be, True)
        self.same(shown(office), before)
        return found

    def check_office(self, office, picture, history, depth):
        """Checks all that an office tells against a picture of it."""
        self.same([office.now, office.text(), office.history(), office.depth, office.busy],
                  [picture.now, picture.text(), history, depth, False])
        self.same([state(office.lot()), office.lot().begun], [state(picture.lot()), 1])
        self.same(office.standing() == picture.standing(), True)
        self.same([str(saying) for saying in office.watched()], [str(saying) for saying in picture.watched])
        self.same([office.verdicts(), office.bulletins()], [picture.verdicts(), picture.bulletins])
        self.same(office.journal() == picture.journal, True)
        for hour in range(picture.now + 1):
            self.same(state(office.known_lot(hour)), state(picture.known_lot(hour)))
        many = len(picture.standing())
        self.same([len(office), bool(office), repr(office)],
                  [many, True, f"Office(hour {picture.now}, {many} reports)"])
