"""LOWERS: lots of items that have with each item all that are ahead of it."""

from turnsall.closures import can_be_put, can_be_taken, lot_of, lowers_of, mask_of, masks_ahead
from turnsall.errors import BadItem
from turnsall.kinds import plain
from turnsall.wanted import is_plain_lower, wanted_item, wanted_lower, wanted_order

MOST_LOWERS = 400


def is_lower(order, value):
    """Whether any value is a LOWER."""
    return is_plain_lower(wanted_order(order), plain(value))


def can_put(order, lower):
    """The items that can be put to the LOWER."""
    order = wanted_order(order)
    return can_be_put(masks_ahead(order), wanted_lower(order, lower))


def can_take(order, lower):
    """The items that can be taken from the LOWER."""
    order = wanted_order(order)
    return can_be_taken(masks_ahead(order), wanted_lower(order, lower))


def put(order, lower, item):
    """The LOWER with the item; BadItem of one that cannot be put."""
    order = wanted_order(order)
    lower = wanted_lower(order, lower)
    number = wanted_item(order, item)
    if number not in can_be_put(masks_ahead(order), lower):
        raise BadItem(item)
    return lot_of(mask_of(lower + (number,)))


def taken(order, lower, item):
    """The LOWER without the item; BadItem of one that cannot be taken."""
    order = wanted_order(order)
    lower = wanted_lower(order, lower)
    number = wanted_item(order, item)
    if number not in can_be_taken(masks_ahead(order), lower):
        raise BadItem(item)
    return tuple([other for other in lower if other != number])


def meet(order, lower, other_lower):
    """The items in both LOWERS."""
    order = wanted_order(order)
    lower = wanted_lower(order, lower)
    other_lower = wanted_lower(order, other_lower)
    return lot_of(mask_of(lower) & mask_of(other_lower))


def join(order, lower, other_lower):
    """The items in one of both LOWERS at least."""
    order = wanted_order(order)
    lower = wanted_lower(order, lower)
    other_lower = wanted_lower(order, other_lower)
    return lot_of(mask_of(lower) | mask_of(other_lower))


def all_lowers(order):
    """All LOWERS, ascending; TooMany(400) of more."""
    return lowers_of(wanted_order(order), MOST_LOWERS)
