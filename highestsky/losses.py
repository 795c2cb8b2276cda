"""Paths, and the least losses with which places reach places and regions."""

from highestsky.errors import InvalidPath
from highestsky.regions import check_region


def losses_from(chart, place):
    """A dict from the places that a place reaches to the least losses of paths to them."""
    chart.check_place(place)
    losses = {place: 0}
    # All steps lead to later hours, so the loss of a place is settled when its turn comes.
    for start in chart.places():
        if start in losses:
            for end, loss in chart.steps_from(start):
                losses[end] = _lesser(losses.get(end), losses[start] + loss)
    return _ascending(losses)


def losses_to(chart, region):
    """A dict from the places that reach a region to the least losses of paths to it."""
    check_region(chart, region)
    losses = {place: 0 for place in region}
    for end in sorted(chart.places(), reverse=True):
        if end in losses:
            for start, loss in chart.steps_to(end):
                losses[start] = _lesser(losses.get(start), losses[end] + loss)
    return _ascending(losses)


def _lesser(known, loss):
    return loss if known is None or loss < known else known


def _ascending(losses):
    return {place: losses[place] for place in sorted(losses)}


def least_loss(chart, place, region):
    """The least loss of a path from a place to a region, or None."""
    chart.check_place(place)
    return losses_to(chart, region).get(place)


def least_path(chart, place, region):
    """A path with the least loss from a place to a place of a region, or None."""
    chart.check_place(place)
    losses = losses_to(chart, region)
    if place not in losses:
        return None
    path = [place]
    while path[-1] not in region:
        path.append(_next_on_path(chart, losses, path[-1]))
    return path


def _next_on_path(chart, losses, place):
    """The first place to which a step leads that begins a path with the least loss."""
    steps = [(end, loss) for end, loss in chart.steps_from(place) if end in losses]
    return [end for end, loss in steps if losses[end] + loss == losses[place]][0]


def path_loss(chart, path):
    """The loss of a path."""
    if not isinstance(path, (list, tuple)) or not path:
        raise InvalidPath(-1)
    total = 0
    for at, place in enumerate(path):
        if place not in chart:
            raise InvalidPath(at)
        if at > 0:
            steps = {end: loss for end, loss in chart.steps_from(path[at - 1])}
            if place not in steps:
                raise InvalidPath(at)
            total += steps[place]
    return total
