"""The texts of places and regions, written and read."""

from highestsky.regions import MOST_PLACES, kept_region
from highestsky.words import is_list, is_place, number_in


def place_text(place):
    """The text of a place."""
    return ".".join([str(number) for number in place])


def region_text(region):
    """The text of a kept region."""
    return "+".join([place_text(place) for place in region])


def read_place(text):
    """The place with a text; None for any value that is no text of a place."""
    if not isinstance(text, str):
        return None
    place = tuple([number_in(word) for word in text.split(".")])
    return place if is_place(place) else None


def read_region(text):
    """The kept region with a text; None for any value that is no text of one."""
    if not isinstance(text, str):
        return None
    region = tuple([read_place(word) for word in text.split("+")])
    if None in region or not is_list(region, 1, MOST_PLACES) or region != kept_region(region):
        return None
    return region
