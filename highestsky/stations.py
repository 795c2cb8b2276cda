"""Stations: regions whose heights can be read, and what their readings settle."""

from highestsky.errors import InvalidStation
from highestsky.forecasts import height_span, possible_heights
from highestsky.lots import check_can_be, check_sayings
from highestsky.regions import MOST_PLACES, check_region
from highestsky.sayings import exactly
from highestsky.verdicts import verdict
from highestsky.words import is_list

MOST_STATIONS = 6


def check_stations(chart, stations):
    """Raises InvalidStation unless any value is a list of stations on a chart."""
    if not is_list(stations, 1, MOST_STATIONS):
        raise InvalidStation(-1)
    for at, station in enumerate(stations):
        if not is_list(station, 1, MOST_PLACES) or not all([place in chart for place in station]):
            raise InvalidStation(at)


def behind_reading(lot, station, reading):
    """A new lot with the reading of a station put to a lot."""
    return lot.with_sayings([exactly(station, reading)])


def settles(lot, station, saying):
    """Whether a saying is sure or never behind each possible reading of a station."""
    return not open_readings(lot, station, saying)


def open_readings(lot, station, saying):
    """The ascending list of the possible readings of a station behind which a saying is open."""
    check_region(lot.chart, station)
    check_sayings(lot.chart, [saying])
    check_can_be(lot)
    readings = possible_heights(lot, station)
    return [reading for reading in readings if verdict(behind_reading(lot, station, reading), saying) == "open"]


def is_silent(lot, station):
    """Whether a station has only one possible reading."""
    least, greatest = height_span(lot, station)
    return least == greatest


def best_station(lot, stations, saying):
    """The pair (index, number of open readings) of the first station that has the fewest open readings."""
    check_stations(lot.chart, stations)
    check_sayings(lot.chart, [saying])
    check_can_be(lot)
    many, index = min([(len(open_readings(lot, station, saying)), at) for at, station in enumerate(stations)])
    return (index, many)
