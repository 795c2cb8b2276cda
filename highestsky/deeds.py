"""Deeds: what is done in an office, their form, and their texts."""

from highestsky.errors import InvalidDeed
from highestsky.sayingtexts import read_saying
from highestsky.words import number_in

# How many items the deeds of each word have.
SIZES = {"report": 2, "withdraw": 2, "hour": 1, "watch": 2, "drop": 2, "publish": 1}


def check_deeds(deeds):
    """Raises InvalidDeed with the index of the first value that has not the form of a deed."""
    for at, deed in enumerate(deeds):
        if not _is_deed(deed):
            raise InvalidDeed(at)


def _is_deed(value):
    """Whether any value has the form of a deed, whatever stands behind its word."""
    if not isinstance(value, tuple) or not value or not isinstance(value[0], str):
        return False
    return SIZES.get(value[0]) == len(value)


def deed_text(deed):
    """The text of a deed."""
    return " ".join([str(item) for item in deed])


def read_deed(text):
    """The deed with a text; None for a text of no deed."""
    word, _, rest = text.partition(" ")
    if word in ("hour", "publish"):
        return (word,) if text == word else None
    item = None
    if word in ("report", "watch"):
        item = read_saying(rest)
    elif word in ("withdraw", "drop"):
        item = number_in(rest)
    return None if item is None else (word, item)
