"""LOWERS between two others, and the MIDDLE of three."""

from turnsall.closures import bare_by, is_within, lot_of, lowers_of, mask_of, masks_ahead, narrowed_by
from turnsall.wanted import wanted_lower, wanted_order

MOST_BETWEEN = 400


def is_between(order, lower, other_lower, third):
    """Whether third is between lower and other_lower, or one of both."""
    mask, other, between = _wanted(order, (lower, other_lower, third))
    return is_within(mask & other, between) and is_within(between, mask | other)


def middle(order, lower, other_lower, third):
    """The items that two of the LOWERS have at least."""
    first, second, last = _wanted(order, (lower, other_lower, third))
    return lot_of(first & second | second & last | last & first)


def all_between(order, lower, other_lower):
    """All LOWERS between both, themselves among them, ascending; TooMany(400) of more."""
    order = wanted_order(order)
    mask, other = _wanted(order, (lower, other_lower))
    apart = lot_of(mask ^ other)
    # What is apart is free to be in or out as far as its own ORDER lets it.
    small = bare_by(narrowed_by(masks_ahead(order), apart))
    found = []
    for lot in lowers_of(small, MOST_BETWEEN):
        found.append(lot_of(mask & other | mask_of([apart[spot] for spot in lot])))
    return tuple(sorted(found))


def _wanted(order, lowers):
    """The list of the LOWERS as bits."""
    order = wanted_order(order)
    return [mask_of(wanted_lower(order, lower)) for lower in lowers]
