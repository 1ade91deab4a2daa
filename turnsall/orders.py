"""ORDERS: which items are ahead of which."""

from turnsall.closures import bare_by, closed_by, has_bit, masks_ahead
from turnsall.wanted import wanted_item, wanted_order


def need_order(thing):
    """The ORDER itself; BadOrder of what is none."""
    wanted_order(thing)
    return thing


def is_ahead(order, item, far):
    """Whether item is ahead of far."""
    order = wanted_order(order)
    item = wanted_item(order, item)
    far = wanted_item(order, far)
    return has_bit(masks_ahead(order)[far], item)


def closed_form(order):
    """The ORDER with all pairs of which the first is ahead of the second."""
    return closed_by(masks_ahead(wanted_order(order)))


def bare_form(order):
    """The ORDER with as few pairs as can be."""
    return bare_by(masks_ahead(wanted_order(order)))


def are_like(order, other):
    """Whether both have the same items, and the same ahead of the same."""
    order = wanted_order(order)
    other = wanted_order(other)
    return masks_ahead(order) == masks_ahead(other)
