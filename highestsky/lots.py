"""Lots: sayings in an order, and the highest sky that is behind all of them."""

from highestsky.errors import InvalidSaying, InvalidText, NoSky, NotPlain, OtherChart, TooMany, UnknownSaying
from highestsky.lowering import Descent, Reaches
from highestsky.sayings import Saying
from highestsky.sayingtexts import read_saying
from highestsky.skies import Sky
from highestsky.words import is_number


class Lot:
    """A lot of sayings of one chart, with its highest sky."""

    MOST = 60

    def __init__(self, chart, sayings=()):
        check_saying_list(chart, sayings)
        if len(sayings) > Lot.MOST:
            raise TooMany(Lot.MOST)
        self.chart = chart
        self._sayings = []
        self._descent = Descent(Reaches(chart))
        self._begun = 1
        self._highest = None
        self._append(sayings)

    @property
    def sky(self):
        """The highest sky; None if the ceilings have no sky."""
        if self._highest is None:
            self._highest = self._descent.highest()
        return self._highest

    @property
    def can_be(self):
        """Whether the lot has a sky."""
        return self._descent.end is None

    @property
    def begun(self):
        """How often the lowering was begun with the full sky."""
        return self._begun

    def put(self, *sayings):
        """Puts sayings behind the others, all or none."""
        check_sayings(self.chart, sayings)
        if sayings and len(self._sayings) + len(sayings) > Lot.MOST:
            raise TooMany(Lot.MOST)
        self._append(sayings)

    def take_back(self, at):
        """Takes the saying with an index off."""
        if not is_number(at, 0, len(self._sayings) - 1):
            raise UnknownSaying(at)
        others = [saying for index, saying in enumerate(self._sayings) if index != at]
        self._sayings = []
        self._descent = self._descent.fresh()
        self._begun += 1
        self._append(others)

    def _append(self, sayings):
        """Puts sayings that are right behind the others."""
        # One by one, so that the log does not tell how the lot came about.
        for saying in sayings:
            self._sayings.append(saying)
            self._descent.take([saying])
        self._highest = None

    def sayings(self):
        """The list of the sayings."""
        return list(self._sayings)

    def parts(self):
        """The list of the parts of the sayings, in order."""
        return self._descent.parts()

    def broken(self):
        """The ascending list of the indexes of the sayings that the highest sky does not keep."""
        sky = self.sky
        if sky is None:
            raise NoSky(self.paper())
        return [at for at, saying in enumerate(self._sayings) if not saying.kept_by(sky)]

    def keeps(self, sky):
        """Whether a sky is a sky of the lot."""
        if not isinstance(sky, Sky) or sky.chart != self.chart:
            raise OtherChart()
        return all([saying.kept_by(sky) for saying in self._sayings])

    def is_plain(self):
        """Whether all sayings are plain."""
        return all([saying.is_plain() for saying in self._sayings])

    def lines(self):
        """The list of the lines of a log that leaves the highest sky, or an under whose limit is below 0."""
        return list(self._descent.trail)

    def paper(self):
        """A right paper: with the highest sky, or with the log and a part that cannot be kept."""
        end = self._descent.end
        if end is None:
            return ("sky", self.sky)
        return ("none", tuple(self._descent.trail), end)

    def beginning(self):
        """Bounds that have the top everywhere, at which each log begins."""
        return self._descent.beginning()

    def could_be(self, sayings):
        """Whether the lot of just these sayings, all of them on the chart, would have a sky."""
        descent = self._descent.fresh()
        descent.take(sayings)
        return descent.end is None

    def with_sayings(self, sayings):
        """A twin with sayings put behind the others, without the bound of Lot.MOST."""
        check_saying_list(self.chart, sayings)
        other = self.twin()
        other._append(sayings)
        return other

    def anew(self, sayings):
        """A new lot of the chart with just these sayings, all of them right, without the bound of Lot.MOST."""
        other = Lot(self.chart)
        # What has been worked out of the chart is not worked out again.
        other._descent = self._descent.fresh()
        other._append(sayings)
        return other

    def twin(self):
        """An independent lot in the same state."""
        other = Lot(self.chart)
        other._sayings = list(self._sayings)
        other._descent = self._descent.twin()
        other._begun = self._begun
        return other

    def text(self):
        """A line with the text of each saying."""
        return "".join([saying.text() + "\n" for saying in self._sayings])

    @staticmethod
    def read(chart, text):
        """A new lot of a chart with the sayings of a text."""
        return Lot(chart, _read_lines(chart, text))

    def __contains__(self, x):
        return isinstance(x, Saying) and x in self._sayings

    def __eq__(self, other):
        return isinstance(other, Lot) and self.chart == other.chart and self._sayings == other._sayings

    def __len__(self):
        return len(self._sayings)

    def __bool__(self):
        return True

    def __repr__(self):
        return f"Lot({len(self._sayings)} sayings)"

    def __str__(self):
        return str(self.text())


def check_sayings(chart, sayings):
    """Raises InvalidSaying, then OffChart, unless all items of a list are sayings on a chart."""
    for at, saying in enumerate(sayings):
        if not isinstance(saying, Saying):
            raise InvalidSaying(at)
    for saying in sayings:
        saying.check_chart(chart)


def check_saying_list(chart, sayings):
    """Raises as check_sayings, and InvalidSaying for any value that is no list or tuple."""
    if not isinstance(sayings, (list, tuple)):
        raise InvalidSaying(-1)
    check_sayings(chart, sayings)


def check_can_be(lot):
    """Raises NoSky if a lot cannot be."""
    if not lot.can_be:
        raise NoSky(lot.paper())


def check_plain(lot):
    """Raises NotPlain with the index of the first saying of a lot that is not plain."""
    for at, saying in enumerate(lot.sayings()):
        if not saying.is_plain():
            raise NotPlain(at)


def _read_lines(chart, text):
    """The list of the sayings of a text, at most Lot.MOST, all of them on a chart."""
    if not isinstance(text, str):
        raise InvalidText(0, "form")
    lines = text.split("\n")
    # What stands behind the last line feed is no whole line.
    tail = lines.pop()
    sayings = []
    for at, line in enumerate(lines):
        saying = read_saying(line)
        if saying is None:
            raise InvalidText(at, "form")
        if not saying.is_on(chart):
            raise InvalidText(at, "chart")
        if at == Lot.MOST:
            raise InvalidText(at, "many")
        sayings.append(saying)
    if tail != "":
        raise InvalidText(len(lines), "form")
    return sayings
