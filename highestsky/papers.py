"""Papers: what shows that a lot can be, or that it cannot."""

from highestsky.errors import InvalidPaper
from highestsky.logs import lowered_by_line
from highestsky.lowering import limit_at
from highestsky.skies import Sky


def is_paper(lot, value):
    """Whether any value is a right paper of a lot."""
    return is_witness(lot, value) or is_grounds(lot, value)


def is_witness(lot, value):
    """Whether any value is a right paper of the first kind: with a sky of the lot."""
    if not isinstance(value, tuple) or len(value) != 2 or value[0] != "sky":
        return False
    return isinstance(value[1], Sky) and value[1].chart == lot.chart and lot.keeps(value[1])


def is_grounds(lot, value):
    """Whether any value is a right paper of the second kind: with a log, and a part that cannot be kept."""
    if not isinstance(value, tuple) or len(value) != 3 or value[0] != "none":
        return False
    _, lines, end = value
    parts = lot.parts()
    if not isinstance(lines, (list, tuple)) or end not in parts:
        return False
    bounds = lot.beginning()
    # The bounds are lowered line by line, up to the first one that is not forced.
    for line in lines:
        if not lowered_by_line(bounds, parts, line):
            return False
    return _is_hopeless(bounds, end)


def _is_hopeless(bounds, end):
    """Whether a part is a floor that bounds do not keep, or an under whose limit is below 0."""
    if end.is_floor():
        return not end.kept_by(bounds)
    return end.kind == "under" and limit_at(bounds, end) < 0


def short_paper(lot, paper):
    """A short paper with the same end and some of the lines of a right paper of the second kind."""
    if not is_grounds(lot, paper):
        raise InvalidPaper()
    word, lines, end = paper
    stages = _stages(lot, lines)
    needs = lot.beginning()
    _need_end(needs, end)
    kept = []
    # From the last line on: whether a line can be left out hangs only on what the kept lines behind it need.
    for stage, line in reversed(list(zip(stages, lines))):
        if not stage.is_within(needs):
            kept.append(line)
            _need_line(needs, line)
    return (word, tuple(kept[::-1]), end)


def is_short(lot, paper):
    """Whether any value is a right and short paper of the second kind."""
    return is_grounds(lot, paper) and len(short_paper(lot, paper)[1]) == len(paper[1])


def _stages(lot, lines):
    """The list of the bounds ahead of each line of a log."""
    bounds = lot.beginning()
    stages = []
    for line in lines:
        stages.append(bounds.twin())
        bounds.lower_to(line[0], line[1])
    return stages


def _need_end(needs, end):
    """Lowers needs to the greatest bounds at which an end is hopeless."""
    number = end.numbers()[0]
    if end.kind == "squallleast":
        needs.lower_place(end.regions()[0][0], number - 1)
    elif end.kind == "atleast":
        needs.lower_region(end.regions()[0], number - 1)
    else:
        needs.lower_region(end.regions()[1], -number - 1)


def _need_line(needs, line):
    """Makes needs of the bounds behind a line to the greatest bounds ahead of it that lead to them."""
    ceiling, limit = line
    needs.forget(ceiling, limit)
    # Now that which the line needs to be forced.
    if ceiling.kind == "under":
        needs.lower_region(ceiling.regions()[1], limit - ceiling.numbers()[0])
    elif ceiling.kind == "ifthen":
        needs.lower_region(ceiling.regions()[1], ceiling.numbers()[1] - 1)
