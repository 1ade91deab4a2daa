"""PINS of an ORDER: items that are to be in, and items that are to be out."""

from turnsall.closures import lot_of, mask_of
from turnsall.pinsets import any_pins, wanted_pins
from turnsall.wanted import wanted_lower, wanted_order


def do_clash(order, pins):
    """Whether no LOWER fits the PINS."""
    return any_pins(wanted_order(order), pins).do_clash()


def does_fit(order, pins, lower):
    """Whether the LOWER has all items of IN and none of OUT."""
    order = wanted_order(order)
    pin_set = wanted_pins(order, pins)
    mask = mask_of(wanted_lower(order, lower))
    return pin_set.nearest_mask(mask) == mask


def sure_in(order, pins):
    """The items that all LOWERS that fit have."""
    return lot_of(wanted_pins(wanted_order(order), pins).sure_mask)


def sure_out(order, pins):
    """The items that no LOWER that fits has."""
    return lot_of(wanted_pins(wanted_order(order), pins).barred_mask)


def open_items(order, pins):
    """All items that are neither sure in nor sure out."""
    return wanted_pins(wanted_order(order), pins).open_lot


def nearest(order, pins, lower):
    """The LOWER that fits and is least far from the LOWER."""
    order = wanted_order(order)
    pin_set = wanted_pins(order, pins)
    return lot_of(pin_set.nearest_mask(mask_of(wanted_lower(order, lower))))
