"""The text of a chart: how it is written, and how it is read line by line."""

from highestsky.errors import InvalidText
from highestsky.winds import DIRECTIONS, is_toll
from highestsky.words import MOST_SIDE, MOST_TOLL, MOST_WINDS, is_number, number_in

LAND = "."
BARRED = "-"


def chart_rows_text(rows, winds, top):
    """The text of the chart with these rows, winds and top."""
    lines = [f"chart {top}"]
    for row in rows:
        lines.append(_items_line("row", row, LAND))
    for wind in winds:
        lines.append(_items_line("wind", wind, BARRED))
    lines.append("end")
    return "".join([line + "\n" for line in lines])


def _items_line(word, items, blank):
    return " ".join([word, *[blank if item is None else str(item) for item in items]])


def read_parts(text):
    """The tuple (rows, winds, top, lines) of a text that begins with the text of a chart.

    The last item is the number of lines up to `end`, with it; behind `end` anything may stand.
    """
    if not isinstance(text, str):
        raise InvalidText(0, "form")
    lines = text.split("\n")
    # What stands behind the last line feed is no whole line.
    tail = lines.pop()
    top = None
    rows = []
    winds = []
    for at, line in enumerate(lines):
        if at == 0:
            top = _top_in(line)
        elif line == "end" and rows:
            _check_water(rows, winds, at)
            return (rows, winds, top, at + 1)
        else:
            _read_line(line, rows, winds, at)
    if tail != "":
        raise InvalidText(len(lines), "form")
    raise InvalidText(len(lines), "missing")


def _top_in(line):
    """The top that the first line tells."""
    words = line.split(" ")
    if len(words) == 2 and words[0] == "chart":
        top = number_in(words[1])
        if is_number(top, 1, MOST_TOLL):
            return top
    raise InvalidText(0, "form")


def _read_line(line, rows, winds, at):
    """Puts the items of a line behind the rows or behind the winds that have been read."""
    row = _items_in(line, "row", LAND)
    wind = _items_in(line, "wind", BARRED)
    if row is not None and not winds and 1 <= len(row) <= MOST_SIDE:
        if len(rows) == MOST_SIDE:
            raise InvalidText(at, "many")
        if rows and len(row) != len(rows[0]):
            raise InvalidText(at, "uneven")
        rows.append(row)
    elif wind is not None and rows and len(wind) == len(DIRECTIONS):
        if len(winds) == MOST_WINDS:
            raise InvalidText(at, "many")
        _check_water(rows, winds, at)
        winds.append(tuple(wind))
    else:
        raise InvalidText(at, "form")


def _items_in(line, word, blank):
    """The list of the items of a line that begins with a word; None if it has another form."""
    words = line.split(" ")
    if words[0] != word:
        return None
    items = []
    for text in words[1:]:
        item = None if text == blank else number_in(text)
        if text != blank and not is_toll(item):
            return None
        items.append(item)
    return items


def _check_water(rows, winds, at):
    """Refuses the line at an index, which is no row, if it is the first one and no row has water."""
    if winds:
        return
    for row in rows:
        if any([drag is not None for drag in row]):
            return
    raise InvalidText(at, "land")
