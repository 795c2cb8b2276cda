"""What an office answers to lines of words."""

from highestsky.charts import Chart
from highestsky.forecasts import height_span
from highestsky.office import Office
from highestsky.sayings import at_least, at_most, level, squall_most
from highestsky.verdicts import verdict
from tests.offices import OfficeCase, shown
from tests.test_histories import made
from tests.test_office import LONG, worked
from tests.test_verdicts import CHART, B, CALM, D, FIVE, LOW

# Where the log stands in what an office shows.
LOG = 12

UNKNOWN = [
    "", " ", "  ", "x", "Now", "NOW", "now ", " now", "now now", "now 0", "reports 0", "reports ", "ask", "ask ",
    "span",
    "span ", "watch 0", "watch atmost 4 1.0.0", "watch ", "bulletins 0", "bulletin", "bulletin ", "undo 1", "redo 1",
    "undo ",
    "ask  atmost 4 1.0.0", "ask atmost 4 1.0.0 ", " ask atmost 4 1.0.0", "ask atmost  4 1.0.0", "span 0.0.0 ",
    "span  0.0.0",
    "now\n", "\nnow", "\n", "ask atmost 4 1.0.0\n", "ask atmost\n4 1.0.0", "ask\natmost 4 1.0.0", "span 0.0.0\n",
    "bulletin 0\n", "bulletin  0", "bulletin 0 ", "undo\n", "redo\n", "undo\nundo", "report atmost 4 1.0.0", "hour",
    "publish",
    "withdraw 0", "drop 0", "error", "unknown", "done", "none", "text", "log", "history", "verdicts", "standing",
    "busy",
    "ask atmost 4\n1.0.0", "asks atmost 4 1.0.0", "reports none",
]


class Answers(OfficeCase):
    def answers(self, office, line, wanted):
        """Checks the answer to a line, by say and by calling the office, which leave it as it is, but for the log."""
        before = shown(office)
        self.same([office.say(line), office(line), office.say(line=line)], [wanted] * 3)
        after = shown(office)
        self.same(after[LOG], before[LOG] + [(line, wanted)] * 3)
        self.same(after[:LOG] + after[LOG + 1:], before[:LOG] + before[LOG + 1:])

    def test_a_new_office(self):
        for line, wanted in [("now", "0"), ("reports", "none"), ("watch", "none"), ("bulletins", "0"),
                             ("span 0.0.0", "0 9"),
                             ("ask atmost 9 0.0.0", "sure"), ("ask atmost 8 0.0.0", "open"),
                             ("ask atleast 10 0.0.0", "never"),
                             ("bulletin 0", "error UnknownBulletin"), ("undo", "error NothingLeft"),
                             ("redo", "error NothingLeft")]:
            self.answers(Office(CHART), line, wanted)

    def test_an_office_that_was_worked(self):
        office = worked()
        for line, wanted in [("now", "2"), ("reports", "0 2"), ("watch", "open sure"), ("bulletins", "3"),
                             ("bulletin 0", "0 sure"), ("bulletin 1", "1 sure open"), ("bulletin 2", "2 open sure"),
                             ("bulletin 3", "error UnknownBulletin")]:
            self.answers(office, line, wanted)
        office.do(("drop", 0), ("drop", 0), ("publish",), ("withdraw", 0), ("withdraw", 2))
        for line, wanted in [("watch", "none"), ("bulletin 3", "2"), ("reports", "none"), ("bulletins", "4")]:
            self.answers(office, line, wanted)

    def test_sayings(self):
        office = worked()
        for saying in [LOW, CALM, FIVE, at_most(D, 6), at_least(B, 7), level(B, D, 1), squall_most(B[0], 9),
                       at_least(B, 10)]:
            for other in [saying, saying.with_gauge("buoy")]:
                self.answers(office, "ask " + str(other), verdict(office.lot(), saying))
        for text in ["x", "0", "atmost", "atmost 4", "atmost 4 1.0.0 1", "atmost 04 1.0.0", "atmost 100 1.0.0",
                     "ask atmost 4 1.0.0",
                     "by A atmost 4 1.0.0", "atmost 4 1.0.0+0.0.0", "atmost 4 1.0.6", "atmost 4 9.0.0", "none",
                     "atmost -1 0.0.0"]:
            self.answers(office, "ask " + text, "error InvalidSaying")
        for text in ["atmost 4 4.0.0", "atmost 4 0.0.2", "by a under 1 0.0.0 0.1.0", "squallleast 1 8.5.5",
                     "atleast 10 5.0.0"]:
            self.answers(office, "ask " + text, "error OffChart")

    def test_regions(self):
        office = worked()
        for text, region in [("0.0.0", [(0, 0, 0)]), ("1.0.1", D), ("0.0.0+3.0.1", [(0, 0, 0), (3, 0, 1)])]:
            least, greatest = height_span(office.lot(), region)
            self.answers(office, "span " + text, f"{least} {greatest}")
        for text in ["x", "0", "0.0", "0.0.0.0", "0.0.0+", "0.0.0+0.0.0", "1.0.0+0.0.0", "00.0.0", "0.0.0 1.0.0",
                     "span 0.0.0",
                     "4.0.0", "0.0.2", "0.1.0", "0.0.0+4.0.0", "9.0.0", "(0, 0, 0)", "-1.0.0"]:
            self.answers(office, "span " + text, "error InvalidRegion")

    def test_bulletins(self):
        office = worked()
        for text in ["3", "4", "-1", "00", "01", "+1", "x", "0 0", "0.", "1234567890", "999999999", "bulletin 0",
                     "None", "0-"]:
            self.answers(office, "bulletin " + text, "error UnknownBulletin")

    def test_no_form(self):
        for office in [Office(LONG), worked()]:
            for line in UNKNOWN:
                self.answers(office, line, "unknown")

    def test_codes(self):
        found = {Office(CHART).say(line) for line in ["ask x", "ask atmost 4 2.0.0", "span x", "bulletin 0", "undo",
                                                      "redo"]}
        self.same(sorted(found), ["error InvalidRegion", "error InvalidSaying", "error NothingLeft", "error OffChart",
                                  "error UnknownBulletin"])
        self.same(Office(Chart([[0]])).say("span 0.0.1"), "error InvalidRegion")


class Steps(OfficeCase):
    def test_undo_and_redo(self):
        office, other = made(), made()
        for _ in range(6):
            self.same(office.say("undo"), "done")
            other.undo()
            self.same([shown(office)[:LOG], office == other], [shown(other)[:LOG], True])
        self.same([office("undo"), office.history()], ["error NothingLeft", (0, 6)])
        for _ in range(6):
            self.same(office("redo"), "done")
            other.redo()
            self.same([office == other, office.text() == other.text(), office.history()], [True, True, other.history()])
        self.same([office.say("redo"), office.history()], ["error NothingLeft", (6, 0)])

    def test_within_drafts(self):
        office = made(2)
        office.open_draft()
        self.same([office("undo"), office("redo")], ["error NothingLeft"] * 2)
        office.do(("publish",))
        self.same([office("undo"), office("bulletins"), office("redo"), office("bulletins"), office.depth],
                  ["done", "1", "done", "2", 1])
        office.give_up()
        self.same([office("bulletins"), office("undo"), office.history()], ["1", "done", (1, 1)])

    def test_the_log(self):
        office = made(2)
        self.same(office.log(), [])
        wanted = []
        for line in ["now", "undo", "x", "", "redo", "ask x", "reports", "now\n"]:
            wanted.append((line, office.say(line)))
            self.same(office.log(), wanted)
        # It stays, whatever is undone, redone, kept or given up.
        office.undo()
        office.open_draft()
        wanted.append(("watch", office("watch")))
        office.do(("publish",))
        office.undo()
        office.redo()
        office.give_up()
        office.redo()
        office.open_draft()
        wanted.append(("bulletins", office("bulletins")))
        office.do(("watch", LOW))
        office.keep_draft()
        office.tried(("publish",))
        self.same(office.log(), wanted)
        office.log().clear()
        self.same(office.log(), wanted)
        self.same([answer for _, answer in wanted], [
            "0", "done", "unknown", "unknown", "done", "error InvalidSaying", "0", "unknown", "none", "1"])
