"""LOTS of items: what is first and last of them, and all that they need."""

from turnsall.closures import lot_of, mask_of, masks_ahead, masks_behind, with_all
from turnsall.wanted import wanted_lot, wanted_order


def head(order, lot):
    """The items of the LOT that are ahead of none of it."""
    order = wanted_order(order)
    return _free_of(masks_behind(order), wanted_lot(order, lot))


def foot(order, lot):
    """The items of the LOT that are behind none of it."""
    order = wanted_order(order)
    return _free_of(masks_ahead(order), wanted_lot(order, lot))


def _free_of(masks, lot):
    mask = mask_of(lot)
    return tuple([item for item in lot if masks[item] & mask == 0])


def ground(order, lot):
    """The LOWER of the items of the LOT and of all that are ahead of any of them."""
    order = wanted_order(order)
    lot = wanted_lot(order, lot)
    return lot_of(with_all(masks_ahead(order), mask_of(lot)))


def is_loose(order, lot):
    """Whether no item of the LOT is ahead of another one."""
    order = wanted_order(order)
    lot = wanted_lot(order, lot)
    return _free_of(masks_ahead(order), lot) == lot
