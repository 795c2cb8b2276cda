"""The texts of papers, written and read line by line."""

from highestsky.errors import InvalidText
from highestsky.lowering import MOST_LIMIT
from highestsky.placetexts import place_text, read_place
from highestsky.sayingtexts import read_saying
from highestsky.skies import Sky
from highestsky.words import MOST_TOLL, is_number, number_in


def paper_text(paper):
    """The text of a paper."""
    if paper[0] == "sky":
        lines = [f"squall {number} {place_text(place)}" for place, number in paper[1].squalls()]
    else:
        lines = [f"lower {limit} {ceiling.text()}" for ceiling, limit in paper[1]]
        lines.append(f"broken {paper[2].text()}")
    return "".join([line + "\n" for line in [paper[0], *lines, "end"]])


def read_paper(chart, text):
    """The paper with a text, for a chart."""
    if not isinstance(text, str):
        raise InvalidText(0, "form")
    lines = text.split("\n")
    # What stands behind the last line feed is no whole line.
    tail = lines.pop()
    draft = Draft(chart)
    for at, line in enumerate(lines):
        why = draft.take(line)
        if why is not None:
            raise InvalidText(at, why)
    if tail != "":
        raise InvalidText(len(lines), "form")
    if not draft.is_whole:
        raise InvalidText(len(lines), "missing")
    return draft.paper()


class Draft:
    """A paper of which some lines have been read."""

    def __init__(self, chart):
        self._chart = chart
        self._word = None
        self._items = []
        self._end = None
        self.is_whole = False

    def paper(self):
        """The paper, when it is whole."""
        if self._word == "sky":
            return ("sky", Sky(self._chart, self._items))
        return ("none", tuple(self._items), self._end)

    def take(self, line):
        """Takes the next line; the word for what is wrong with it, or None."""
        if self._word is None:
            return self._take_first(line)
        if self.is_whole:
            return "form"
        if line == "end" and (self._word == "sky" or self._end is not None):
            self.is_whole = True
            return None
        if self._word == "sky":
            return self._take_squall(line)
        return "form" if self._end is not None else self._take_part(line)

    def _take_first(self, line):
        if line not in ("sky", "none"):
            return "form"
        self._word = line
        return None

    def _take_squall(self, line):
        words = line.split(" ")
        if len(words) != 3 or words[0] != "squall":
            return "form"
        number = number_in(words[1])
        place = read_place(words[2])
        if not is_number(number, 1, MOST_TOLL) or place is None:
            return "form"
        if place not in self._chart or number > self._chart.top:
            return "chart"
        if self._items and place <= self._items[-1][0]:
            return "order"
        self._items.append((place, number))
        return None

    def _take_part(self, line):
        """Takes a line of the log, or that of its end."""
        word, _, rest = line.partition(" ")
        if word == "broken":
            return self._take_end(read_saying(rest))
        number, _, text = rest.partition(" ")
        limit = number_in(number)
        ceiling = read_saying(text)
        if word != "lower" or not is_number(limit, 0, MOST_LIMIT) or ceiling is None or not ceiling.is_ceiling():
            return "form"
        if not ceiling.is_on(self._chart):
            return "chart"
        self._items.append((ceiling, limit))
        return None

    def _take_end(self, end):
        if end is None or not end.is_simple():
            return "form"
        if not end.is_on(self._chart):
            return "chart"
        self._end = end
        return None
