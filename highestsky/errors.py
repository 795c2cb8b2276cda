"""The errors that the package raises; each one knows its own name as `code`."""


class SkyError(ValueError):
    """What is handed in is wrong, or cannot be done."""


class Missing(LookupError):
    """What is asked for is not there."""


class InvalidNumber(SkyError):
    """A number is wanted, within bounds."""

    def __init__(self, value):
        self.value = value
        self.code = "InvalidNumber"


class InvalidGauge(SkyError):
    """A name is wanted, or None."""

    def __init__(self, value):
        self.value = value
        self.code = "InvalidGauge"


class InvalidPlace(SkyError):
    """A place is wanted."""

    def __init__(self, value):
        self.value = value
        self.code = "InvalidPlace"


class InvalidChart(SkyError):
    """The rows of a chart are wrong; -1 where no row or no column is to blame."""

    def __init__(self, row, column):
        self.row = row
        self.column = column
        self.code = "InvalidChart"


class InvalidWind(SkyError):
    """The wind with this index is wrong; -1 for the winds as a whole."""

    def __init__(self, at):
        self.at = at
        self.code = "InvalidWind"


class InvalidTop(SkyError):
    """A top from 1 to 99 is wanted."""

    def __init__(self, value):
        self.value = value
        self.code = "InvalidTop"


class InvalidText(SkyError):
    """The line of a text with this index cannot stand."""

    def __init__(self, line, why):
        self.line = line
        self.why = why
        self.code = "InvalidText"


class InvalidRegion(SkyError):
    """The place with this index is wrong; -1 for the region as a whole."""

    def __init__(self, at):
        self.at = at
        self.code = "InvalidRegion"


class InvalidPath(SkyError):
    """The item of a path with this index is wrong; -1 for the path as a whole."""

    def __init__(self, at):
        self.at = at
        self.code = "InvalidPath"


class InvalidSquall(SkyError):
    """The squall with this index is wrong; -1 for the squalls as a whole."""

    def __init__(self, at):
        self.at = at
        self.code = "InvalidSquall"


class InvalidHeights(SkyError):
    """A dict of the heights of all cells of water is wanted."""

    def __init__(self):
        self.code = "InvalidHeights"


class InvalidMirror(SkyError):
    """A mirror or a direction is wanted."""

    def __init__(self, value):
        self.value = value
        self.code = "InvalidMirror"


class InvalidSaying(SkyError):
    """The saying with this index is none; -1 for the sayings as a whole."""

    def __init__(self, at):
        self.at = at
        self.code = "InvalidSaying"


class OffChart(SkyError):
    """A saying speaks of a place that is no place of the chart."""

    def __init__(self, place):
        self.place = place
        self.code = "OffChart"


class OtherChart(SkyError):
    """Two objects of equal charts are wanted."""

    def __init__(self):
        self.code = "OtherChart"


class TooMany(SkyError):
    """There can be at most so many."""

    def __init__(self, most):
        self.most = most
        self.code = "TooMany"


class NotForced(SkyError):
    """The line of a log with this index is not forced; -1 for the log as a whole."""

    def __init__(self, at):
        self.at = at
        self.code = "NotForced"


class InvalidPaper(SkyError):
    """A right paper of the second kind is wanted."""

    def __init__(self):
        self.code = "InvalidPaper"


class NoSky(SkyError):
    """A lot cannot be; the grounds are a right paper of the second kind."""

    def __init__(self, grounds):
        self.grounds = grounds
        self.code = "NoSky"


class HasSky(SkyError):
    """A lot is wanted that cannot be."""

    def __init__(self):
        self.code = "HasSky"


class NotPlain(SkyError):
    """The saying with this index is not plain."""

    def __init__(self, at):
        self.at = at
        self.code = "NotPlain"


class Unkept(SkyError):
    """A sky does not keep the saying with this index."""

    def __init__(self, at):
        self.at = at
        self.code = "Unkept"


class InvalidStation(SkyError):
    """The station with this index is wrong; -1 for the stations as a whole."""

    def __init__(self, at):
        self.at = at
        self.code = "InvalidStation"


class NoBranch(SkyError):
    """A plan has no branch for this reading."""

    def __init__(self, value):
        self.value = value
        self.code = "NoBranch"


class OnLand(SkyError):
    """A cell of water of the chart is wanted."""

    def __init__(self, value):
        self.value = value
        self.code = "OnLand"


class InvalidWay(SkyError):
    """The item of a way with this index is wrong; -1 for the way as a whole."""

    def __init__(self, at):
        self.at = at
        self.code = "InvalidWay"


class InvalidMeasure(SkyError):
    """A measure of roughness is wanted."""

    def __init__(self, value):
        self.value = value
        self.code = "InvalidMeasure"


class NoWay(SkyError):
    """A trip has no way."""

    def __init__(self):
        self.code = "NoWay"


class NoCase(SkyError):
    """A doubt has no case."""

    def __init__(self):
        self.code = "NoCase"


class Impossible(SkyError):
    """The reports with these numbers cannot be true together with a new one."""

    def __init__(self, core):
        self.core = core
        self.code = "Impossible"


class InvalidDeed(SkyError):
    """The value with this index has not the form of a deed."""

    def __init__(self, at):
        self.at = at
        self.code = "InvalidDeed"


class NoDraft(SkyError):
    """No draft is open."""

    def __init__(self):
        self.code = "NoDraft"


class Ended(SkyError):
    """There is no next hour."""

    def __init__(self):
        self.code = "Ended"


class UnknownPlace(Missing):
    """A place of the chart is wanted."""

    def __init__(self, value):
        self.value = value
        self.code = "UnknownPlace"


class UnknownSaying(Missing):
    """An index of a saying is wanted."""

    def __init__(self, value):
        self.value = value
        self.code = "UnknownSaying"


class UnknownGauge(Missing):
    """A gauge of the lot is wanted."""

    def __init__(self, value):
        self.value = value
        self.code = "UnknownGauge"


class UnknownCase(Missing):
    """A case of the doubt is wanted."""

    def __init__(self, value):
        self.value = value
        self.code = "UnknownCase"


class UnknownReport(Missing):
    """The number of a standing report is wanted."""

    def __init__(self, value):
        self.value = value
        self.code = "UnknownReport"


class UnknownWatch(Missing):
    """An index of the watch list is wanted."""

    def __init__(self, value):
        self.value = value
        self.code = "UnknownWatch"


class NothingLeft(IndexError):
    """There is no step to undo or to redo."""

    def __init__(self):
        self.code = "NothingLeft"
