"""The directions, and the winds with a toll for each of them."""

from highestsky.errors import InvalidMirror
from highestsky.words import MOST_TOLL, is_number

DIRECTIONS = ("stay", "north", "east", "south", "west")

# How far each direction leads, in the order of DIRECTIONS.
ROW_MOVES = (0, -1, 0, 1, 0)
COLUMN_MOVES = (0, 0, 1, 0, -1)


def is_toll(value):
    """Whether any value is a number that a toll or a drag may be."""
    return is_number(value, 0, MOST_TOLL)


def is_wind(value):
    """Whether any value is a wind: a tuple with a toll, or None, for each direction."""
    if not isinstance(value, tuple) or len(value) != len(DIRECTIONS):
        return False
    return all([toll is None or is_toll(toll) for toll in value])


def moved_cell(cell, direction):
    """The pair (row, column) to which a direction leads, on a chart or not."""
    if direction not in DIRECTIONS:
        raise InvalidMirror(direction)
    at = DIRECTIONS.index(direction)
    row, column = cell
    return (row + ROW_MOVES[at], column + COLUMN_MOVES[at])
