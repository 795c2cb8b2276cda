"""Plans: which stations to read, one after another, until a saying is settled."""

from highestsky.errors import InvalidNumber, NoBranch
from highestsky.forecasts import possible_heights
from highestsky.lots import check_can_be, check_sayings
from highestsky.stations import behind_reading, check_stations
from highestsky.verdicts import verdict
from highestsky.words import MOST_TOLL, is_number

# No plan that is looked for, or right, is deeper.
MOST_DEPTH = 3

SETTLED = ("sure", "never")


def find_plan(lot, stations, saying, *, most=2):
    """A plan with the least depth, if this is at most a number; None otherwise."""
    _check_question(lot, stations, saying)
    if not is_number(most, 0, MOST_DEPTH):
        raise InvalidNumber(most)
    check_can_be(lot)
    for depth in range(most + 1):
        plan = _plan_within(lot, stations, saying, depth)
        if plan is not None:
            return plan
    return None


def _check_question(lot, stations, saying):
    check_stations(lot.chart, stations)
    check_sayings(lot.chart, [saying])


def _plan_within(lot, stations, saying, depth):
    """A plan that is at most so deep, or None."""
    word = verdict(lot, saying)
    if word in SETTLED:
        return (word,)
    if depth > 0:
        for index, station in enumerate(stations):
            branches = _branches(lot, stations, saying, station, depth - 1)
            if branches is not None:
                return ("read", index, branches)
    return None


def _branches(lot, stations, saying, station, depth):
    """The tuple of the pairs (reading, plan) behind a station, with plans at most so deep, or None."""
    readings = possible_heights(lot, station)
    # A silent station, as one that has been read already, tells nothing.
    if len(readings) == 1:
        return None
    branches = []
    for reading in readings:
        plan = _plan_within(behind_reading(lot, station, reading), stations, saying, depth)
        if plan is None:
            return None
        branches.append((reading, plan))
    return tuple(branches)


def is_plan(lot, stations, saying, value):
    """Whether any value is a plan that is at most MOST_DEPTH deep."""
    _check_question(lot, stations, saying)
    check_can_be(lot)
    return _is_plan_within(lot, stations, saying, value, MOST_DEPTH)


def _is_plan_within(lot, stations, saying, value, depth):
    """Whether any value is a plan that is at most so deep."""
    if not isinstance(value, tuple):
        return False
    if len(value) == 1:
        return value[0] in SETTLED and value[0] == verdict(lot, saying)
    if len(value) != 3 or value[0] != "read" or depth == 0:
        return False
    if not is_number(value[1], 0, len(stations) - 1):
        return False
    return _are_branches(lot, stations, saying, value, depth - 1)


def _are_branches(lot, stations, saying, plan, depth):
    """Whether behind the station of a plan there is a plan, at most so deep, for each possible reading."""
    _, index, branches = plan
    if not isinstance(branches, tuple) or not all([_is_pair(branch) for branch in branches]):
        return False
    station = stations[index]
    if [reading for reading, rest in branches] != possible_heights(lot, station):
        return False
    for reading, rest in branches:
        if not _is_plan_within(behind_reading(lot, station, reading), stations, saying, rest, depth):
            return False
    return True


def _is_pair(value):
    """Whether any value is a pair that begins with a number that a height may be."""
    return isinstance(value, tuple) and len(value) == 2 and is_number(value[0], 0, MOST_TOLL)


def plan_depth(plan):
    """The depth of a plan."""
    if plan[0] in SETTLED:
        return 0
    return 1 + max([plan_depth(rest) for reading, rest in plan[2]])


def followed_plan(plan, stations, sky):
    """The pair of the list of the pairs (index, reading) that a plan reads in a sky, and the word at its end."""
    readings = []
    rest = plan
    while rest[0] not in SETTLED:
        _, index, branches = rest
        reading = sky.region_height(stations[index])
        known = {number: branch for number, branch in branches}
        if reading not in known:
            raise NoBranch(reading)
        readings.append((index, reading))
        rest = known[reading]
    return (readings, rest[0])
