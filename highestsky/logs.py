"""Logs: lines that lower bounds step by step, checked one by one."""

from highestsky.errors import NotForced
from highestsky.lowering import is_forced
from highestsky.sayings import Saying


def is_line(parts, value):
    """Whether any value is a pair of a ceiling among the parts of a lot and something for its limit."""
    if not isinstance(value, tuple) or len(value) != 2:
        return False
    # A floor has no limit, so that a line with one is never forced.
    return isinstance(value[0], Saying) and value[0].is_ceiling() and value[0] in parts


def lowered_by_line(bounds, parts, value):
    """Lowers bounds by a line of a lot with these parts, if it is one and is forced; whether this is so."""
    if not is_line(parts, value) or not is_forced(bounds, value[0], value[1]):
        return False
    bounds.lower_to(value[0], value[1])
    return True


def followed_log(lot, lines):
    """The bounds that a log leaves."""
    if not isinstance(lines, (list, tuple)):
        raise NotForced(-1)
    bounds = lot.beginning()
    parts = lot.parts()
    for at, line in enumerate(lines):
        if not lowered_by_line(bounds, parts, line):
            raise NotForced(at)
    return bounds.as_sky()


def log_walk(lot, lines):
    """The bounds behind each line of a list."""
    bounds = lot.beginning()
    parts = lot.parts()
    for at, line in enumerate(lines):
        if not lowered_by_line(bounds, parts, line):
            raise NotForced(at)
        yield bounds.as_sky()
