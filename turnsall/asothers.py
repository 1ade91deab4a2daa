"""ORDERS as WORLDS of plans and of nets."""

from turnsall.closures import bare_by, masks_ahead
from turnsall.errors import BadOrder, TooMany
from turnsall.wanted import wanted_order

MOST_AS_OTHERS = 12


def as_plan(order):
    """The WORLD of a plan of the ORDER: a job for each item; TooMany(12), BadOrder("empty") of no items."""
    many, pairs = _wanted_bare(order)
    return ("plan", ((0, 1),) * many, tuple([(item, far, 0) for item, far in pairs]))


def as_net(order):
    """The WORLD of a net of the ORDER: a place for each item; TooMany(12), BadOrder("empty") of no items."""
    many, pairs = _wanted_bare(order)
    return ("net", many + 2, tuple(sorted([(far + 1, item + 1, 1) for item, far in pairs])))


def _wanted_bare(order):
    order = wanted_order(order)
    if order[0] > MOST_AS_OTHERS:
        raise TooMany(MOST_AS_OTHERS)
    if order[0] == 0:
        raise BadOrder("empty")
    return bare_by(masks_ahead(order))
