"""PINS of an ORDER as bits: what is sure by them, what is open, and what fits."""

from turnsall.closures import (
    bare_by, lot_of, lowers_of, mask_of, masks_ahead, masks_behind, narrowed_by, with_all,
)
from turnsall.errors import BadPins
from turnsall.kinds import is_lot, is_tuple_of, plain


class PinSet:
    """What PINS come to, the bits of IN and of OUT being told; they may clash."""

    def __init__(self, order, inside, outside):
        self.ahead = masks_ahead(order)
        self.inside = inside
        self.outside = outside
        self.sure_mask = with_all(self.ahead, inside)
        self.barred_mask = with_all(masks_behind(order), outside)
        self.open_mask = (1 << order[0]) - 1 & ~(self.sure_mask | self.barred_mask)
        self.open_lot = lot_of(self.open_mask)

    def do_clash(self):
        """Whether no LOWER fits."""
        return self.sure_mask & self.barred_mask != 0

    def pair(self):
        """The PINS themselves."""
        return (lot_of(self.inside), lot_of(self.outside))

    def nearest_mask(self, mask):
        """The bits of the NEAREST one to the LOWER with these bits."""
        return (mask | self.sure_mask) & ~self.barred_mask

    def open_ahead(self):
        """For each open item the bits of the open ones ahead of it, by their places among these."""
        return narrowed_by(self.ahead, self.open_lot)

    def lower_with(self, spots):
        """The LOWER that fits and has of the open items just those at these places."""
        return lot_of(self.sure_mask | mask_of([self.open_lot[spot] for spot in spots]))

    def fitting(self, most):
        """The ascending tuple of all LOWERS that fit; TooMany of more than most."""
        small = bare_by(self.open_ahead())
        return tuple(sorted([self.lower_with(lot) for lot in lowers_of(small, most)]))


def any_pins(order, thing):
    """The PINS, which may clash; BadPins."""
    pins = plain(thing)
    if not is_tuple_of(pins, 2) or not is_lot(pins[0], order[0]) or not is_lot(pins[1], order[0]):
        raise BadPins(thing)
    return PinSet(order, mask_of(pins[0]), mask_of(pins[1]))


def wanted_pins(order, thing):
    """The PINS; BadPins, also of those that clash."""
    pins = any_pins(order, thing)
    if pins.do_clash():
        raise BadPins(thing)
    return pins
