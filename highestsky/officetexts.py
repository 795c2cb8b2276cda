"""The text of an office, written, and read line by line."""

from highestsky.charts import Chart
from highestsky.charttexts import read_parts
from highestsky.deeds import read_deed
from highestsky.errors import InvalidText, Missing, SkyError
from highestsky.lots import Lot
from highestsky.office import Office
from highestsky.states import State, state_behind


def write_office(office):
    """The text of an office."""
    return office.text()


def read_office(text):
    """The office with a text, without history and drafts."""
    rows, winds, top, many = read_parts(text)
    lines = text.split("\n")
    # What stands behind the last line feed is no whole line.
    tail = lines.pop()
    office = Office(Chart(rows, winds, top=top))
    state = State(Lot(office.chart))
    end = None
    for at, line in enumerate(lines):
        if end is not None:
            raise InvalidText(at, "form")
        if at >= many and line == "end":
            end = at
        elif at >= many:
            state = _behind_line(state, line, at)
    if tail != "":
        raise InvalidText(len(lines), "form")
    if end is None:
        raise InvalidText(len(lines), "missing")
    office.stand(state)
    return office


def _behind_line(state, line, at):
    """The state behind the deed of the line with an index."""
    deed = read_deed(line)
    if deed is None:
        raise InvalidText(at, "form")
    try:
        return state_behind(state, [deed])
    except (SkyError, Missing):
        raise InvalidText(at, "refused")
