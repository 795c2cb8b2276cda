"""States: what an office knows at a time, and how deeds lead from state to state."""

from highestsky.cores import core
from highestsky.deeds import check_deeds, deed_text
from highestsky.errors import Ended, Impossible, TooMany, UnknownReport, UnknownWatch
from highestsky.lots import Lot, check_sayings
from highestsky.verdicts import verdict
from highestsky.words import is_number

# So many sayings can be watched.
MOST_WATCHED = 12


class State:
    """What an office knows; a state never changes once it has been told.

    `ground` is the lot of the standing reports, `present` the hour. `reports` has for each number the tuple (saying,
    hour of arrival, hour of withdrawal or None), `posted` the bulletins, and `deeds` all that has led here.
    """

    def __init__(self, ground):
        self.ground = ground
        self.present = 0
        self.reports = ()
        self.watches = ()
        self.posted = ()
        self.deeds = ()

    def copied(self, deed):
        """A further state that is the same but for a deed, which stands behind the others."""
        other = State(self.ground)
        other.present = self.present
        other.reports = self.reports
        other.watches = self.watches
        other.posted = self.posted
        other.deeds = (*self.deeds, deed)
        return other

    def standing(self):
        """The ascending list of the pairs (number, saying) of the standing reports."""
        return [(number, saying) for number, (saying, _, gone) in enumerate(self.reports) if gone is None]

    def known(self, hour):
        """The list of the sayings of the reports that stood when an hour was over, or up to now."""
        return [saying for saying, come, gone in self.reports if come <= hour and (gone is None or gone > hour)]

    def verdicts(self):
        """The list of the verdicts of the watched sayings."""
        return [verdict(self.ground, saying) for saying in self.watches]

    def shown(self):
        """What two equal offices have in common, but for their chart."""
        return (self.present, self.standing(), self.watches, self.posted)

    def text(self):
        """The text of an office in this state."""
        lines = [deed_text(deed) + "\n" for deed in self.deeds]
        return "".join([self.ground.chart.text(), *lines, "end\n"])


def state_behind(state, deeds):
    """The state behind deeds, which are done one after another."""
    check_deeds(deeds)
    last = state
    for deed in deeds:
        action = ACTIONS[deed[0]]
        last = action(last, deed)
    return last


def _report(state, deed):
    saying = deed[1]
    check_sayings(state.ground.chart, [saying])
    if len(state.standing()) == Lot.MOST:
        raise TooMany(Lot.MOST)
    ground = state.ground.with_sayings([saying])
    if not ground.can_be:
        raise Impossible(_blamed(state, ground))
    other = state.copied(deed)
    other.reports = (*state.reports, (saying, state.present, None))
    other.ground = ground
    return other


def _blamed(state, ground):
    """The numbers of standing reports that cannot be true together with the last saying of a lot."""
    numbers = [number for number, saying in state.standing()]
    # As the standing reports can be true together, the last saying is in each core.
    return [numbers[at] for at in core(ground)[:-1]]


def _withdraw(state, deed):
    number = deed[1]
    if not is_number(number, 0, len(state.reports) - 1) or state.reports[number][2] is not None:
        raise UnknownReport(number)
    saying, come, _ = state.reports[number]
    other = state.copied(deed)
    other.reports = (*state.reports[:number], (saying, come, state.present), *state.reports[number + 1:])
    other.ground = state.ground.anew([standing for _, standing in other.standing()])
    return other


def _hour(state, deed):
    if state.present == state.ground.chart.last:
        raise Ended()
    other = state.copied(deed)
    other.present = state.present + 1
    return other


def _watch(state, deed):
    saying = deed[1]
    check_sayings(state.ground.chart, [saying])
    if len(state.watches) == MOST_WATCHED:
        raise TooMany(MOST_WATCHED)
    other = state.copied(deed)
    other.watches = (*state.watches, saying)
    return other


def _drop(state, deed):
    index = deed[1]
    if not is_number(index, 0, len(state.watches) - 1):
        raise UnknownWatch(index)
    other = state.copied(deed)
    other.watches = (*state.watches[:index], *state.watches[index + 1:])
    return other


def _publish(state, deed):
    sky = state.ground.sky
    heights = [(cell, sky.height((state.present, *cell))) for cell in state.ground.chart.cells()]
    other = state.copied(deed)
    other.posted = (*state.posted, (state.present, tuple(state.verdicts()), tuple(heights)))
    return other


# What is done for each word of a deed.
ACTIONS = {
    "report": _report, "withdraw": _withdraw, "hour": _hour, "watch": _watch, "drop": _drop, "publish": _publish,
}
