"""Answers: what an office says to lines of words."""

from highestsky.errors import InvalidRegion, InvalidSaying, NothingLeft, OffChart
from highestsky.forecasts import height_span
from highestsky.placetexts import read_region
from highestsky.sayingtexts import read_saying
from highestsky.verdicts import verdict
from highestsky.words import number_in

UNKNOWN = "unknown"


def answer_to(office, line):
    """The answer of an office to a line."""
    words = line.split(" ")
    if "" in words or "\n" in line:
        return UNKNOWN
    word = words[0]
    if len(words) == 1 and word in SHORT:
        action = SHORT[word]
        return action(office)
    if len(words) > 1 and word in LONG:
        action = LONG[word]
        return action(office, " ".join(words[1:]))
    return UNKNOWN


def _now(office):
    return str(office.now)


def _reports(office):
    return _listed([str(number) for number, saying in office.standing()])


def _watch(office):
    return _listed(office.verdicts())


def _listed(words):
    return " ".join(words) if words else "none"


def _bulletins(office):
    return str(len(office.bulletins()))


def _undo(office):
    try:
        office.undo()
    except NothingLeft as wrong:
        return f"error {wrong.code}"
    return "done"


def _redo(office):
    try:
        office.redo()
    except NothingLeft as wrong:
        return f"error {wrong.code}"
    return "done"


def _ask(office, text):
    try:
        # What is read of no text of a saying is refused as no saying.
        return verdict(office.lot(), read_saying(text))
    except (InvalidSaying, OffChart) as wrong:
        return f"error {wrong.code}"


def _span(office, text):
    try:
        # What is read of no text of a region is refused as no region.
        least, greatest = height_span(office.lot(), read_region(text))
    except InvalidRegion as wrong:
        return f"error {wrong.code}"
    return f"{least} {greatest}"


def _bulletin(office, text):
    index = number_in(text)
    bulletins = office.bulletins()
    if index is None or index >= len(bulletins):
        return "error UnknownBulletin"
    hour, verdicts, _ = bulletins[index]
    return " ".join([str(hour), *verdicts])


# How the lines of one word are answered, and those in which further words are told.
SHORT = {"now": _now, "reports": _reports, "watch": _watch, "bulletins": _bulletins, "undo": _undo, "redo": _redo}
LONG = {"ask": _ask, "span": _span, "bulletin": _bulletin}
