"""Forecasts: which heights regions have in the skies of a lot."""

from highestsky.errors import InvalidNumber
from highestsky.lots import check_can_be
from highestsky.regions import check_region
from highestsky.sayings import at_most, exactly
from highestsky.words import is_number


def greatest_height(lot, region):
    """The greatest height of a region in the skies of a lot."""
    _check_forecast(lot, region)
    return lot.sky.region_height(region)


def least_height(lot, region):
    """The least height of a region in the skies of a lot."""
    _check_forecast(lot, region)
    low = 0
    high = lot.sky.region_height(region)
    while low < high:
        middle = (low + high) // 2
        if lot.with_sayings([at_most(region, middle)]).can_be:
            high = middle
        else:
            low = middle + 1
    return low


def height_span(lot, region):
    """The pair of the least and the greatest height of a region."""
    return (least_height(lot, region), greatest_height(lot, region))


def possible_heights(lot, region):
    """The ascending list of the heights of a region in the skies of a lot."""
    _check_forecast(lot, region)
    heights = []
    lower = lot
    # In the highest sky below a height the region has the next possible one.
    while lower.can_be:
        height = lower.sky.region_height(region)
        heights.append(height)
        if height == 0:
            break
        lower = lower.with_sayings([at_most(region, height - 1)])
    return heights[::-1]


def skipped_heights(lot, region):
    """The ascending list of the numbers between the least and the greatest height that no sky of a lot has."""
    heights = possible_heights(lot, region)
    return [number for number in range(heights[0], heights[-1]) if number not in heights]


def sky_for(lot, region, number):
    """The highest sky of a lot in which a region has just this height, or None."""
    _check_forecast(lot, region)
    # The saying itself refuses what is no number from 0 to 99.
    lower = lot.with_sayings([exactly(region, number)])
    return lower.sky if lower.can_be else None


def forecast_rows(lot, hour):
    """A string for each cell of water: its row, its column, its least and its greatest height at an hour."""
    if not is_number(hour, 0, lot.chart.last):
        raise InvalidNumber(hour)
    # All rows are worked out first, as the lot may be another one when the next row is asked for.
    for row in [_forecast_row(lot, (hour, *cell)) for cell in lot.chart.cells()]:
        yield row


def _forecast_row(lot, place):
    least, greatest = height_span(lot, [place])
    return f"{place[1]:>3}{place[2]:>3}{least:>4}{greatest:>4}"


def _check_forecast(lot, region):
    check_region(lot.chart, region)
    check_can_be(lot)
