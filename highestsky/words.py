"""What a number, a name, a cell, a place and a list are, and how a number is read."""

# A chart has at most so many rows, and so many columns.
MOST_SIDE = 6
# A chart has at most so many winds, so this is also the greatest hour of a place.
MOST_WINDS = 8
# No top, drag or toll is greater.
MOST_TOLL = 99
# A number of more digits is no number that is read.
MOST_DIGITS = 9


def is_number(value, least, most):
    """Whether any value is a number from least to most; True and False are none."""
    return isinstance(value, int) and not isinstance(value, bool) and least <= value <= most


def is_list(value, least, most):
    """Whether any value is a list or a tuple of least to most items."""
    return isinstance(value, (list, tuple)) and least <= len(value) <= most


def is_name(value):
    """Whether any value is a name: 1 to 6 lowercase letters."""
    if not isinstance(value, str) or not 1 <= len(value) <= 6:
        return False
    return all(["a" <= letter <= "z" for letter in value])


def is_cell(value):
    """Whether any value is a cell: a pair (row, column), on a chart or not."""
    if not isinstance(value, tuple) or len(value) != 2:
        return False
    return all([is_number(item, 0, MOST_SIDE - 1) for item in value])


def is_place(value):
    """Whether any value is a place: a tuple (hour, row, column), on a chart or not."""
    if not isinstance(value, tuple) or len(value) != 3:
        return False
    return is_number(value[0], 0, MOST_WINDS) and is_cell(value[1:])


def number_in(text):
    """The number with this text, without sign and leading zeros; None for any other value."""
    if not isinstance(text, str) or not 1 <= len(text) <= MOST_DIGITS:
        return None
    if not all(["0" <= digit <= "9" for digit in text]):
        return None
    if text[0] == "0" and text != "0":
        return None
    return int(text)
