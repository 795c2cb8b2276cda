"""The history of an office: undo, redo, drafts within drafts, and twins."""

from highestsky.errors import InvalidDeed, NoDraft, NothingLeft, TooMany, UnknownReport
from highestsky.office import Office
from highestsky.sayings import at_least, at_most
from tests.offices import OfficeCase, Picture, shown
from tests.test_verdicts import CHART, A, B, CALM, FIVE, LOW

STEPS = [(("report", LOW),), (("watch", CALM), ("publish",)), (("hour",),), (("withdraw", 0), ("report", FIVE)),
         (("drop", 0),), (("publish",), ("report", CALM), ("publish",))]


def journal(many):
    return [deed for step in STEPS[:many] for deed in step]


def made(many=len(STEPS)):
    office = Office(CHART)
    for step in STEPS[:many]:
        office.do(*step)
    return office


class Undo(OfficeCase):
    def test_to_both_ends(self):
        office = made()
        for _ in range(2):
            for many in range(len(STEPS) - 1, -1, -1):
                office.undo()
                self.check_office(office, Picture(CHART, journal(many)), (many, len(STEPS) - many), 0)
            self.refused_office(NothingLeft(), office, office.undo)
            for many in range(1, len(STEPS) + 1):
                office.redo()
                self.check_office(office, Picture(CHART, journal(many)), (many, len(STEPS) - many), 0)
            self.refused_office(NothingLeft(), office, office.redo)

    def test_a_new_step_behind_an_undo(self):
        for many in range(1, len(STEPS) + 1):
            office = made()
            for _ in range(many):
                office.undo()
            office.do(("publish",))
            left = len(STEPS) - many
            self.check_office(office, Picture(CHART, [*journal(left), ("publish",)]), (left + 1, 0), 0)
            self.refused_office(NothingLeft(), office, office.redo)
            office.undo()
            self.check_office(office, Picture(CHART, journal(left)), (left, 1), 0)
            office.redo()
            self.same(office.history(), (left + 1, 0))

    def test_refused_calls_between(self):
        office = made()
        office.undo()
        office.undo()
        self.refused_office(InvalidDeed(0), office, office.do, None)
        self.refused_office(UnknownReport(0), office, office.do, ("publish",), ("withdraw", 0))
        self.impossible(office, office.do, ("report", at_least(A, 10)))
        self.refused_office(NoDraft(), office, office.keep_draft)
        self.refused_office(NoDraft(), office, office.give_up)
        office.do()
        office.tried(("publish",))
        self.same(office.history(), (4, 2))
        office.redo()
        office.redo()
        self.same([office.text(), office.history()], [made().text(), (6, 0)])

    def test_calls_without_deeds(self):
        office = Office(CHART)
        office.do()
        self.same(office.history(), (0, 0))
        office = made(3)
        office.do()
        self.same([office.history(), office.text()], [(3, 0), made(3).text()])

    def test_bulletins_and_hours_are_undone(self):
        office = Office(CHART)
        office.do(("hour",), ("publish",))
        office.undo()
        self.same([office.now, office.bulletins(), office.journal()], [0, [], []])
        office.redo()
        self.same([office.now, len(office.bulletins())], [1, 1])


class Drafts(OfficeCase):
    def test_kept_with_steps(self):
        office = made(2)
        self.assertIsNone(office.open_draft())
        self.check_office(office, Picture(CHART, journal(2)), (0, 0), 1)
        for step in STEPS[2:]:
            office.do(*step)
        self.check_office(office, Picture(CHART, journal(6)), (4, 0), 1)
        self.assertIsNone(office.keep_draft())
        self.check_office(office, Picture(CHART, journal(6)), (3, 0), 0)
        office.undo()
        self.check_office(office, Picture(CHART, journal(2)), (2, 1), 0)
        office.redo()
        self.check_office(office, Picture(CHART, journal(6)), (3, 0), 0)

    def test_kept_with_undone_steps(self):
        office = made(2)
        office.open_draft()
        for step in STEPS[2:]:
            office.do(*step)
        office.undo()
        office.undo()
        self.same(office.history(), (2, 2))
        office.keep_draft()
        self.check_office(office, Picture(CHART, journal(4)), (3, 0), 0)
        self.refused_office(NothingLeft(), office, office.redo)

    def test_kept_without_steps(self):
        for acts in [[], ["do", "undo"], ["do", "do", "undo", "undo"], ["do", "undo", "do", "undo"]]:
            office = made(4)
            office.undo()
            office.undo()
            office.open_draft()
            for act in acts:
                office.do(("publish",)) if act == "do" else office.undo()
            office.keep_draft()
            # What could be redone around it still can.
            self.check_office(office, Picture(CHART, journal(2)), (2, 2), 0)
            office.redo()
            office.redo()
            self.check_office(office, Picture(CHART, journal(4)), (4, 0), 0)

    def test_what_could_be_redone_around_a_kept_draft_with_steps(self):
        office = made(4)
        office.undo()
        office.open_draft()
        self.refused_office(NothingLeft(), office, office.redo)
        self.refused_office(NothingLeft(), office, office.undo)
        office.do(("publish",))
        office.keep_draft()
        self.same(office.history(), (4, 0))
        self.refused_office(NothingLeft(), office, office.redo)

    def test_steps_that_change_nothing_in_the_end(self):
        office = made(1)
        office.open_draft()
        office.do(("watch", LOW))
        office.do(("drop", 0))
        office.keep_draft()
        self.check_office(office, Picture(CHART, [*journal(1), ("watch", LOW), ("drop", 0)]), (2, 0), 0)

    def test_given_up(self):
        office = made(4)
        office.undo()
        before = shown(office)
        office.open_draft()
        office.do(("publish",), ("watch", LOW))
        office.do(("report", at_most(B, 7)))
        office.undo()
        self.same(office.history(), (1, 1))
        self.assertIsNone(office.give_up())
        self.same(shown(office), before)
        office.redo()
        self.check_office(office, Picture(CHART, journal(4)), (4, 0), 0)

    def test_undo_and_redo_within(self):
        office = made(2)
        office.open_draft()
        office.do(*STEPS[2])
        office.undo()
        self.check_office(office, Picture(CHART, journal(2)), (0, 1), 1)
        self.refused_office(NothingLeft(), office, office.undo)
        office.redo()
        self.check_office(office, Picture(CHART, journal(3)), (1, 0), 1)
        self.refused_office(NothingLeft(), office, office.redo)

    def test_three_and_a_fourth(self):
        office = made(1)
        for depth in range(3):
            self.same(office.depth, depth)
            office.open_draft()
            office.do(*STEPS[depth + 1])
            self.check_office(office, Picture(CHART, journal(depth + 2)), (1, 0), depth + 1)
        self.refused_office(TooMany(3), office, office.open_draft)
        office.keep_draft()
        self.check_office(office, Picture(CHART, journal(4)), (2, 0), 2)
        office.open_draft()
        self.refused_office(TooMany(3), office, office.open_draft)
        office.give_up()
        office.undo()
        self.check_office(office, Picture(CHART, journal(3)), (1, 1), 2)
        office.give_up()
        self.check_office(office, Picture(CHART, journal(2)), (1, 0), 1)
        office.keep_draft()
        self.check_office(office, Picture(CHART, journal(2)), (2, 0), 0)
        self.refused_office(NoDraft(), office, office.keep_draft)
        self.refused_office(NoDraft(), office, office.give_up)

    def test_drafts_kept_in_drafts_that_are_given_up(self):
        office = made(2)
        office.undo()
        before = shown(office)
        office.open_draft()
        office.do(("watch", LOW))
        office.open_draft()
        office.do(("watch", FIVE))
        office.do(("watch", CALM))
        office.keep_draft()
        self.same([office.history(), len(office.watched())], [(2, 0), 3])
        office.undo()
        self.same([office.history(), len(office.watched())], [(1, 1), 1])
        office.give_up()
        self.same(shown(office), before)

    def test_an_empty_draft_within_a_draft(self):
        office = made(1)
        office.open_draft()
        office.do(("watch", LOW))
        office.undo()
        office.open_draft()
        office.open_draft()
        office.keep_draft()
        office.keep_draft()
        self.same([office.history(), office.depth], [(0, 1), 1])
        office.redo()
        office.keep_draft()
        self.check_office(office, Picture(CHART, [*journal(1), ("watch", LOW)]), (2, 0), 0)

    def test_tried_within(self):
        office = made(2)
        office.open_draft()
        office.do(*STEPS[2])
        before = shown(office)
        told = office.tried(*STEPS[3])
        self.same([told, shown(office)], [Picture(CHART, journal(4)).text(), before])
        self.refused_office(UnknownReport(1), office, office.tried, *STEPS[3], ("withdraw", 1), ("withdraw", 1))


class Twins(OfficeCase):
    def test_their_own_history(self):
        office = made(4)
        office.undo()
        office.say("now")
        office.open_draft()
        office.do(("watch", LOW))
        office.undo()
        twin = office.twin()
        self.same([shown(twin), type(twin), twin == office], [shown(office), Office, True])
        before = shown(office)
        twin.redo()
        twin.say("reports")
        twin.keep_draft()
        self.same([shown(office), twin.history(), twin.depth], [before, (4, 0), 0])
        twin.undo()
        twin.undo()
        twin.do(("publish",))
        self.same(shown(office), before)
        before = shown(twin)
        office.give_up()
        office.redo()
        office.say("undo")
        office.say("undo")
        self.same([shown(twin), office.history(), len(office.log()), len(twin.log())], [before, (2, 2), 3, 2])

    def test_to_both_ends(self):
        office = made().twin()
        for many in range(len(STEPS) - 1, -1, -1):
            office.undo()
            self.check_office(office.twin(), Picture(CHART, journal(many)), (many, len(STEPS) - many), 0)
        self.refused_office(NothingLeft(), office, office.twin().undo)
