"""ORDERS turned about, beside and under one another, and narrowed."""

from turnsall.closures import bare_by, lot_of, masks_ahead, masks_behind, narrowed_by
from turnsall.errors import TooMany
from turnsall.wanted import MOST_ITEMS, wanted_lot, wanted_order


def about(order):
    """The ORDER with items and what is ahead the other way round."""
    order = wanted_order(order)
    last = order[0] - 1
    turned = []
    for mask in reversed(masks_behind(order)):
        turned.append(sum([1 << (last - item) for item in lot_of(mask)]))
    return bare_by(turned)


def beside(order, other):
    """The ORDER with the items of both; TooMany(20) of more items."""
    order = wanted_order(order)
    other = wanted_order(other)
    return _joined(order, other, 0)


def under(order, other):
    """The ORDER with the items of both, each of the first one ahead; TooMany(20) of more items."""
    order = wanted_order(order)
    other = wanted_order(other)
    return _joined(order, other, (1 << order[0]) - 1)


def _joined(order, other, ahead_of_other):
    many = order[0]
    if many + other[0] > MOST_ITEMS:
        raise TooMany(MOST_ITEMS)
    moved = [(mask << many) | ahead_of_other for mask in masks_ahead(other)]
    return bare_by(masks_ahead(order) + moved)


def narrowed(order, lot):
    """The ORDER of the items of the LOT alone, numbered anew."""
    order = wanted_order(order)
    lot = wanted_lot(order, lot)
    return bare_by(narrowed_by(masks_ahead(order), lot))
