"""The office: reports that arrive and are withdrawn, a watch list, bulletins, drafts, and a history."""

from highestsky.answers import answer_to
from highestsky.errors import InvalidNumber, NoDraft, TooMany
from highestsky.histories import History
from highestsky.lots import Lot
from highestsky.states import State, state_behind
from highestsky.words import is_number


class Office:
    """An office of a chart."""

    WATCHES = 12
    DRAFTS = 3

    def __init__(self, chart):
        self.chart = chart
        # The history of the office, and those of the open drafts, the innermost one last.
        self._histories = [History(State(Lot(chart)))]
        self._busy = False
        self._log = []

    def _state(self):
        """The present state."""
        return self._histories[-1].state

    def do(self, *deeds):
        """Does deeds, all or none, as one step of the history."""
        state = self._behind(deeds)
        if deeds:
            self._histories[-1].step(state)

    def _behind(self, deeds):
        """The state behind deeds."""
        self._busy = True
        try:
            return state_behind(self._state(), deeds)
        finally:
            self._busy = False

    def undo(self):
        """Takes the last step back."""
        self._histories[-1].back()

    def redo(self):
        """Does the step again that was taken back last."""
        self._histories[-1].forth()

    def history(self):
        """The pair of the numbers of steps that can be undone and redone, of the innermost draft or of the office."""
        return self._histories[-1].counts()

    def open_draft(self):
        """Opens a draft within the present one."""
        if self.depth == Office.DRAFTS:
            raise TooMany(Office.DRAFTS)
        self._histories.append(History(self._state()))

    def keep_draft(self):
        """Closes the innermost draft, whose steps become one step of the history around it."""
        draft = self._closed_draft()
        undoable, _ = draft.counts()
        if undoable > 0:
            self._histories[-1].step(draft.state)

    def give_up(self):
        """Closes the innermost draft, and leaves the history around it as it is."""
        self._closed_draft()

    def _closed_draft(self):
        """The history of the innermost draft, which is open no longer."""
        if self.depth == 0:
            raise NoDraft()
        return self._histories.pop()

    @property
    def depth(self):
        """The number of open drafts."""
        return len(self._histories) - 1

    @property
    def busy(self):
        """Whether deeds are being done."""
        return self._busy

    @property
    def now(self):
        """The present hour."""
        return self._histories[-1].state.present

    def tried(self, *deeds):
        """The text that the office would have behind deeds."""
        return self._behind(deeds).text()

    def lot(self):
        """A new lot with the sayings of the standing reports."""
        return self._state().ground.twin()

    def standing(self):
        """The ascending list of the pairs (number, saying) of the standing reports."""
        return self._state().standing()

    def watched(self):
        """The list of the watched sayings."""
        return list(self._state().watches)

    def verdicts(self):
        """The list of the verdicts of the watched sayings."""
        return self._state().verdicts()

    def bulletins(self):
        """The list of the bulletins."""
        return list(self._state().posted)

    def known_lot(self, hour):
        """A new lot, that as known at an hour."""
        state = self._state()
        if not is_number(hour, 0, state.present):
            raise InvalidNumber(hour)
        return state.ground.anew(state.known(hour))

    def journal(self):
        """The list of the deeds that have led to the present state."""
        return list(self._state().deeds)

    def text(self):
        """The text of the office."""
        return self._state().text()

    def say(self, line):
        """The answer to a line of words."""
        answer = answer_to(self, line)
        self._log.append((line, answer))
        return answer

    def __call__(self, line):
        return self.say(line)

    def log(self):
        """The list of the pairs (line, answer) of all lines that were answered."""
        return list(self._log)

    def twin(self):
        """An independent office in the same state, with its history, drafts and log."""
        other = Office(self.chart)
        other._histories = [history.twin() for history in self._histories]
        other._log = list(self._log)
        return other

    def stand(self, state):
        """Stands at a state of the chart, without history and drafts."""
        self._histories = [History(state)]

    def __eq__(self, other):
        return isinstance(other, Office) and self.chart == other.chart and self._shown() == other._shown()

    def _shown(self):
        """What an equal office has in common, but for the chart."""
        return self._state().shown()

    def __len__(self):
        return len(self._state().standing())

    def __bool__(self):
        return True

    def __repr__(self):
        return f"Office(hour {self._state().present}, {len(self._state().standing())} reports)"
