"""The text of offices: written, read back, and bent."""

import random

from highestsky.charts import Chart
from highestsky.errors import InvalidText
from highestsky.office import Office
from highestsky.officetexts import read_office, write_office
from highestsky.sayings import at_least, at_most, exactly, under
from tests.helpers import Case, any_values, largest_chart
from tests.offices import Model, OfficeCase, Picture
from tests.test_histories import made
from tests.test_office import worked
from tests.test_verdicts import CHART, A, B, CALM, D, FIVE, LOW
from tests.worlds import WORLDS, state

HEAD = CHART.text()
# Each line is right behind those ahead of it.
LINES = ["report atmost 4 1.0.0", "report by buoy squallmost 0 1.0.1", "watch under -1 0.0.0 0.0.1+1.0.0", "publish",
         "hour",
         "report atleast 5 1.0.1", "withdraw 1", "watch ifthen 1 0.0.0 2 1.0.0", "drop 0", "publish", "withdraw 0"]


def joined(lines, end="end\n"):
    return HEAD + "".join(line + "\n" for line in lines) + end


def without_history(office):
    """All that is the same in an office that is read back."""
    return [office.now, state(office.lot()), [(number, str(saying)) for number, saying in office.standing()],
            [str(saying) for saying in office.watched()], office.verdicts(), office.bulletins(),
            [state(office.known_lot(hour)) for hour in range(office.now + 1)], office.text(), len(office), repr(office),
            [[str(item) for item in deed] for deed in office.journal()]]


class Written(OfficeCase):
    def test_an_example(self):
        office = Office(CHART)
        self.same([office.text(), write_office(office=office)], [HEAD + "end\n"] * 2)
        office.do(("report", LOW), ("report", CALM.with_gauge("buoy")))
        office.do(("watch", under(A, B + A, -1)), ("publish",), ("hour",))
        office.do(("withdraw", 1), ("drop", 0))
        text = HEAD + ("report atmost 4 1.0.0\nreport by buoy squallmost 0 1.0.1\nwatch under -1 0.0.0 0.0.0+0.0.1\n"
                       "publish\nhour\nwithdraw 1\ndrop 0\nend\n")
        self.same([office.text(), write_office(office)], [text, text])

    def test_undone_deeds_and_drafts(self):
        office = made()
        office.undo()
        self.same(write_office(office), Picture(CHART, office.journal()).text())
        office.open_draft()
        office.do(("watch", LOW))
        told = write_office(office)
        self.same([told.endswith("watch atmost 4 1.0.0\nend\n"), told == office.text()], [True, True])
        office.undo()
        office.keep_draft()
        self.same(write_office(office), read_office(write_office(office)).text())


class ReadBack(OfficeCase):
    def check(self, office):
        read = read_office(office.text())
        self.same([read == office, read.chart == office.chart, without_history(read)],
                  [True, True, without_history(office)])
        self.same([read.journal() == office.journal(), read.history(), read.depth, read.log(), read.busy],
                  [True, (0, 0), 0, [], False])
        self.check_office(read, Picture(office.chart, office.journal()), (0, 0), 0)
        return read

    def test_all_kinds_of_deeds(self):
        for office in [Office(CHART), worked(), *[made(many) for many in range(7)]]:
            read = self.check(office)
            self.check(read)
            read.do(("publish",))
            self.same([read.history(), read == office], [(1, 0), False])
            read.undo()
            self.same(read == office, True)

    def test_undone_deeds_and_drafts(self):
        office = made()
        office.undo()
        office.say("now")
        office.open_draft()
        office.do(("watch", LOW), ("publish",))
        office.open_draft()
        office.do(("report", at_most(B, 7)))
        self.check(office)
        office.undo()
        self.check(office)
        office.keep_draft()
        office.keep_draft()
        self.check(office)

    def test_at_random(self):
        maker = random.Random(250)
        for world in WORLDS:
            for _ in range(6):
                office, model = Office(world.chart), Model(world.chart)
                for _ in range(25):
                    word = maker.choice(["report", "report", "withdraw", "hour", "watch", "drop", "publish"])
                    item = {"report": world.saying(maker), "watch": world.saying(maker)}.get(word, maker.randint(0, 4))
                    deed = (word,) if word in ("hour", "publish") else (word, item)
                    if model.wrong([deed]) is None:
                        model.do([deed])
                        office.do(deed)
                self.check(office)

    def test_the_largest_chart(self):
        chart = largest_chart()
        maker = random.Random(251)
        office = Office(chart)
        for hour in range(9):
            for _ in range(6):
                office.do(("report", at_most(maker.sample(chart.places(), 40), maker.randint(40, 90), gauge="buoy")))
            office.do(("watch", at_most(maker.sample(chart.places(), 40), 50)), ("publish",))
            if hour < 8:
                office.do(("hour",))
        self.assertGreater(len(office.text()), 12000)
        self.check(office)

    def test_by_name(self):
        self.same(read_office(text=joined(LINES)).text(), joined(LINES))


class Refused(Case):
    def refuses(self, text, line, why):
        self.refused(InvalidText(HEAD.count("\n") + line, why), read_office, text)

    def test_the_lines_are_right(self):
        for many in range(len(LINES) + 1):
            self.same(read_office(joined(LINES[:many])).text(), joined(LINES[:many]))

    def test_no_string(self):
        for value in [value for value in any_values() if not isinstance(value, str)] + [Office(CHART), [HEAD], b"x"]:
            self.refused(InvalidText(0, "form"), read_office, value)

    def test_the_chart(self):
        for text, line, why in [("", 0, "missing"), ("\n", 0, "form"), ("x", 0, "form"), ("chart 9\n", 1, "missing"),
                                ("chart 9\nrow 0 1\nrow 1\nend\nend\n", 2, "uneven"), ("chart 0\n", 0, "form"),
                                ("chart 9\nrow .\nend\nend\n", 2, "land"), ("chart 9\nrow 0\nhour\nend\n", 2, "form"),
                                ("chart 9\n" + "row 0\n" * 7, 7, "many"), ("chart 9\nrow 0\nend", 2, "form"),
                                ("chart 9\nrow 0\nwind 0 5 - 5\nend\nx\n", 2, "form")]:
            self.refused(InvalidText(line, why), read_office, text)

    def test_form(self):
        wrong = ["", "x", " ", "hour ", " hour", "hour 1", "Hour", "HOUR", "publish ", "publish 0", "report", "report ",
                 "report  atmost 4 1.0.0", "report atmost 4", "report atmost 4 1.0.0 ", "atmost 4 1.0.0", "report 0",
                 "report atmost 04 1.0.0", "report atmost 100 1.0.0", "report by A atmost 4 1.0.0", "watch", "watch ",
                 "watch 0", "watch atmost 4 1.0.0+0.0.0", "withdraw", "withdraw ", "withdraw -1", "withdraw 00",
                 "withdraw 01", "withdraw +1", "withdraw 0 ", "withdraw 0 0", "withdraw 1234567890", "withdraw a",
                 "drop", "drop ", "drop -1", "drop 00", "drop 0 0", "drop 1234567890", "end ", "End", "undo", "redo",
                 "now",
                 "report report atmost 4 1.0.0", "chart 9", "row 0 1", "squall 1 0.0.0", "do hour"]
        for line in wrong:
            for ahead in range(len(LINES) + 1):
                self.refuses(joined(LINES[:ahead] + [line]), ahead, "form")
                # The first wrong line counts.
                self.refuses(joined(LINES[:ahead] + [line, "drop 9", "x"], ""), ahead, "form")

    def test_refused(self):
        wrong = ["report atmost 4 2.0.0", "report atmost 4 0.0.2", "report atleast 10 0.0.0", "withdraw 9",
                 "withdraw 999999999",
                 "drop 9", "drop 999999999", "watch atmost 4 2.0.0", "report under -1 0.0.0 0.0.0"]
        for line in wrong:
            for ahead in range(len(LINES) + 1):
                self.refuses(joined(LINES[:ahead] + [line]), ahead, "refused")
                self.refuses(joined(LINES[:ahead] + [line, "x", "drop 9"], ""), ahead, "refused")
        self.refuses(joined(["hour", "hour"]), 1, "refused")
        self.refuses(joined(["report atmost 4 1.0.0", "withdraw 0", "withdraw 0"]), 2, "refused")
        self.refuses(joined(["withdraw 0"]), 0, "refused")
        self.refuses(joined(["report atmost 4 1.0.0", "withdraw 1"]), 1, "refused")
        self.refuses(joined(["drop 0"]), 0, "refused")
        self.refuses(joined(["report atmost 4 1.0.0", "report atleast 5 1.0.0"]), 1, "refused")
        self.refuses(joined(["report atmost 4 1.0.0"] * 61), 60, "refused")
        self.refuses(joined(["watch atmost 4 1.0.0"] * 13), 12, "refused")
        self.same(len(read_office(joined(["report atmost 4 1.0.0"] * 60))), 60)
        self.same(len(read_office(joined(["watch atleast 100 1.0.0"] * 12)).watched()), 12)

    def test_missing_and_behind_the_end(self):
        for many in range(len(LINES) + 1):
            self.refuses(joined(LINES[:many], ""), many, "missing")
            # Without its line feed even a right line, or one that would be refused, has no form.
            for line in ["end", "hour", "x", "report atmost 4 2.0.0", " "]:
                self.refuses(joined(LINES[:many], line), many, "form")
            for line in ["\n", "end\n", "end", "x", "hour\n", "drop 9\n", "publish"]:
                self.refuses(joined(LINES[:many]) + line, many + 1, "form")
        self.refuses(joined(LINES) + "end\n" * 3, len(LINES) + 1, "form")

    def test_cut(self):
        text = joined(LINES)
        for at in range(len(text)):
            with self.assertRaises(InvalidText) as caught:
                read_office(text[:at])
            lines = text[:at].count("\n")
            whole = text[:at] == "" or text[at - 1] == "\n"
            self.same([caught.exception.line, caught.exception.why], [lines, "missing" if whole else "form"])

    def test_lines_exchanged_left_out_and_put_in(self):
        for first in range(len(LINES)):
            for second in range(len(LINES)):
                lines = list(LINES)
                lines[first], lines[second] = lines[second], lines[first]
                self.as_pictured(lines)
                self.as_pictured(LINES[:first] + [LINES[second]] + LINES[first:])
            self.as_pictured(LINES[:first] + LINES[first + 1:])

    def as_pictured(self, lines):
        """Checks that lines are read just as a picture of the office takes them, or refused at the first wrong one."""
        sayings = {"report atmost 4 1.0.0": LOW, "report by buoy squallmost 0 1.0.1": CALM.with_gauge("buoy"),
                   "watch under -1 0.0.0 0.0.1+1.0.0": under(A, [(0, 0, 1), (1, 0, 0)], -1),
                   "report atleast 5 1.0.1": FIVE}
        picture = Picture(CHART, [])
        for at, line in enumerate(lines):
            word, _, rest = line.partition(" ")
            deed = (word,)
            if word in ("report", "watch"):
                deed = (word, sayings.get(line, None))
                if deed[1] is None:
                    deed = (word, read_office(HEAD + line + "\nend\n").journal()[0][1])
            elif rest:
                deed = (word, int(rest))
            if picture.wrong(*deed) is not None:
                self.refuses(joined(lines), at, "refused")
                return
            picture = Picture(CHART, [*picture.journal, deed])
        self.same(read_office(joined(lines)).text(), picture.text())

    def test_other_characters(self):
        text = joined(LINES)
        maker = random.Random(252)
        for _ in range(400):
            at = maker.randrange(len(text))
            other = text[:at] + maker.choice(["", " ", "0", "1", "-", ".", "e", "\n",
                                              "x"]) + text[at + maker.randint(0, 1):]
            try:
                read = read_office(other)
            except InvalidText as wrong:
                self.same([wrong.why in ("form", "refused", "missing", "uneven", "many", "land"),
                           0 <= wrong.line <= other.count("\n")], [True, True])
                continue
            # What is read is written in the same way.
            self.same(read.text(), other)


class Facts(OfficeCase):
    def test_from_texts_alone(self):
        office = read_office(joined(["report " + str(exactly(D, 5)), "report " + str(at_least(B, 6))]))
        self.same([office.say("span 1.0.1"), office.say("ask atmost 6 0.0.1"), len(office)], ["5 5", "sure", 2])
        self.same(Chart.read(HEAD) == office.chart, True)
