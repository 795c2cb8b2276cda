"""The texts of sayings, read; a saying itself writes its text."""

from highestsky.placetexts import read_place, read_region
from highestsky.sayings import BOUNDS, saying_of
from highestsky.words import is_name, is_number, number_in

# What the words behind the kind of a saying tell, in order.
FORMS = {
    "atmost": ("number", "region"), "atleast": ("number", "region"), "exactly": ("number", "region"),
    "under": ("number", "region", "region"), "level": ("number", "region", "region"),
    "ifthen": ("number", "region", "number", "region"),
    "squallmost": ("number", "place"), "squallleast": ("number", "place"),
}


def read_saying(text):
    """The saying with a text; None for any value that is no text of a saying."""
    if not isinstance(text, str):
        return None
    words = text.split(" ")
    gauge = None
    if words[0] == "by" and len(words) > 2:
        gauge = words[1]
        words = words[2:]
    form = FORMS.get(words[0])
    if form is None or len(words) != len(form) + 1 or not (gauge is None or is_name(gauge)):
        return None
    items = list(zip(form, words[1:]))
    numbers = [_read_number(word) for what, word in items if what == "number"]
    regions = [_region_in(what, word) for what, word in items if what != "number"]
    least, most = BOUNDS[words[0]]
    if None in regions or not all([is_number(number, least, most) for number in numbers]):
        return None
    return saying_of(words[0], regions, numbers, gauge)


def _read_number(text):
    """The number with a text, which may be below 0; None for a text of no number."""
    if not text.startswith("-"):
        return number_in(text)
    number = number_in(text[1:])
    # 0 has no sign.
    return -number if number else None


def _region_in(what, text):
    """The kept region with the text of a region, or of the place of a squall; None for another text."""
    if what == "region":
        return read_region(text)
    place = read_place(text)
    return None if place is None else (place,)


def read_sayings(text):
    """The list of the sayings of lines; None for any value that is no string of whole lines with sayings."""
    if not isinstance(text, str):
        return None
    lines = text.split("\n")
    # What stands behind the last line feed is no whole line.
    tail = lines.pop()
    sayings = [read_saying(line) for line in lines]
    return None if tail != "" or None in sayings else sayings
