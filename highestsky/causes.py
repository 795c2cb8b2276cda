"""Causes: which places raise a region, and which of them floors choose."""

from highestsky.errors import InvalidNumber
from highestsky.losses import least_loss, losses_to
from highestsky.lots import check_can_be, check_plain
from highestsky.regions import check_region
from highestsky.sayings import squall_most
from highestsky.words import is_number

# A floor asks for at most so much, and so does whoever asks for causes.
MOST_AMOUNT = 100


def is_cause(sky, place, region, amount):
    """Whether a place raises a region to an amount in a sky."""
    sky.chart.check_place(place)
    _check_amount(sky.chart, region, amount)
    loss = least_loss(sky.chart, place, region)
    return loss is not None and sky.squall(place) - loss >= amount


def possible_causes(lot, region, amount):
    """The ascending list of the places that raise a region to an amount in some sky of a lot."""
    _check_amount(lot.chart, region, amount)
    check_can_be(lot)
    losses = losses_to(lot.chart, region)
    sky = lot.sky
    return [place for place in losses if sky.squall(place) - losses[place] >= amount]


def sure_causes(lot, region, amount):
    """The ascending list of the places that raise a region to an amount in each sky of a lot."""
    # A place that raises it in each sky does so in the highest one.
    places = possible_causes(lot, region, amount)
    return [place for place in places if not _can_fail(lot, region, amount, [place])]


def surely_among(lot, region, amount, places):
    """Whether in each sky of a lot some place of a list raises a region to an amount."""
    _check_amount(lot.chart, region, amount)
    for place in places:
        lot.chart.check_place(place)
    check_can_be(lot)
    return not _can_fail(lot, region, amount, places)


def _can_fail(lot, region, amount, places):
    """Whether in some sky of a lot no place of a list raises a region to an amount."""
    losses = losses_to(lot.chart, region)
    needs = [(place, amount + losses[place]) for place in places if place in losses]
    # A need above the top is never met.
    bounds = [squall_most(place, need - 1) for place, need in needs if need <= lot.chart.top]
    return lot.with_sayings(bounds).can_be


def choices(lot, region):
    """The list of the tuples (index of the saying, share, place) of the choices of all floors of a plain lot."""
    check_region(lot.chart, region)
    check_plain(lot)
    check_can_be(lot)
    losses = losses_to(lot.chart, region)
    sky = lot.sky
    floors = [(at, part) for at, saying in enumerate(lot.sayings()) for part in saying.parts() if part.is_floor()]
    return [(at, *_choice(sky, floor, losses)) for at, floor in floors]


def _choice(sky, floor, losses):
    """The least pair (share, place) of the carriers of a floor."""
    carried = [(place, need) for place, need in needs_of(sky.chart, floor) if sky.squall(place) >= need]
    return min([(_share(need, losses.get(place)), place) for place, need in carried])


def needs_of(chart, floor):
    """The list of the pairs (place, need) of the places that can carry a floor."""
    region = floor.regions()[0]
    amount = floor.numbers()[0]
    if floor.kind == "squallleast":
        return [(region[0], amount)]
    return [(place, amount + loss) for place, loss in losses_to(chart, region).items()]


def _share(need, loss):
    """What is left of a need behind a loss, if there is a path."""
    return 0 if loss is None else max(0, need - loss)


def least_by_choices(lot, region):
    """The greatest share of the choices of all floors of a plain lot, 0 without floors."""
    return max([0, *[choice[1] for choice in choices(lot, region)]])


def _check_amount(chart, region, amount):
    check_region(chart, region)
    if not is_number(amount, 1, MOST_AMOUNT):
        raise InvalidNumber(amount)
