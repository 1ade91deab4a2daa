"""WORTHS of the items of an ORDER, and the LOWERS that are dearest by them."""

from turnsall.closures import lot_of, mask_of, masks_ahead
from turnsall.dearest import Dearest
from turnsall.wanted import wanted_lower, wanted_order, wanted_worths


def need_worths(order, thing):
    """The WORTHS themselves; BadWorths of what is none."""
    wanted_worths(wanted_order(order), thing)
    return thing


def worth_of(order, worths, lower):
    """How much the LOWER is worth."""
    order = wanted_order(order)
    worths = wanted_worths(order, worths)
    return sum([worths[item] for item in wanted_lower(order, lower)])


def greatest_worth(order, worths):
    """How much a dearest LOWER is worth."""
    return _dearest(order, worths).greatest_worth()


def is_dearest(order, worths, lower):
    """Whether no LOWER is worth more."""
    dearest = _dearest(order, worths)
    mask = mask_of(wanted_lower(wanted_order(order), lower))
    return dearest.worth_of_mask(mask) == dearest.greatest_worth()


def least_dearest(order, worths):
    """The dearest LOWER that is within all others."""
    return lot_of(_dearest(order, worths).least_mask)


def greatest_dearest(order, worths):
    """The dearest LOWER that has all others."""
    return lot_of(_dearest(order, worths).greatest_mask)


def _dearest(order, worths):
    order = wanted_order(order)
    return Dearest(masks_ahead(order), wanted_worths(order, worths))
