"""Certificates: papers that show the verdict of a saying in a lot."""

from highestsky.lots import check_sayings
from highestsky.papers import is_grounds, is_witness
from highestsky.verdicts import kept_and_broken, verdict


def certificate(lot, saying):
    """A right certificate of a saying."""
    word = verdict(lot, saying)
    if word == "open":
        return (word, tuple([("sky", sky) for sky in kept_and_broken(lot, saying)]))
    return (word, tuple([lot.with_sayings(sayings).paper() for sayings in _refuted_by(word, saying)]))


def is_certificate(lot, saying, value):
    """Whether any value is a right certificate of a saying."""
    check_sayings(lot.chart, [saying])
    if not isinstance(value, tuple) or len(value) != 2 or not isinstance(value[1], tuple):
        return False
    word, papers = value
    if word == "open":
        return _shows_open(lot, saying, papers)
    if word != "sure" and word != "never":
        return False
    refuted = _refuted_by(word, saying)
    if len(papers) != len(refuted):
        return False
    return all([is_grounds(lot.with_sayings(sayings), paper) for sayings, paper in zip(refuted, papers)])


def _refuted_by(word, saying):
    """The list of the tuples of sayings with none of which a lot can be, if the saying is sure, or never."""
    return saying.opposites() if word == "sure" else [(saying,)]


def _shows_open(lot, saying, papers):
    """Whether papers show a sky that keeps a saying and one that does not."""
    if len(papers) != 2 or not all([is_witness(lot, paper) for paper in papers]):
        return False
    return saying.kept_by(papers[0][1]) and not saying.kept_by(papers[1][1])
