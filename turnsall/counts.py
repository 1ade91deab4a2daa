"""How many LOWERS fit PINS, and how many of these have what."""

from turnsall.closures import size_of
from turnsall.errors import BadItem
from turnsall.pinsets import PinSet, wanted_pins
from turnsall.ratios import ratio
from turnsall.tallies import Tally
from turnsall.wanted import wanted_item, wanted_order


def how_many(order, pins):
    """How many LOWERS fit the PINS."""
    order = wanted_order(order)
    return Tally(order).how_many(wanted_pins(order, pins).open_mask)


def sizes(order, pins):
    """How many LOWERS that fit have 0 items, 1 item, and so on, up to MANY."""
    order = wanted_order(order)
    pin_set = wanted_pins(order, pins)
    sure = size_of(pin_set.sure_mask)
    barred = size_of(pin_set.barred_mask)
    return (0,) * sure + Tally(order).sizes_of(pin_set.open_mask) + (0,) * barred


def chance(order, pins, item):
    """The FRACTION of the LOWERS that fit that have the item."""
    order = wanted_order(order)
    pin_set = wanted_pins(order, pins)
    item = wanted_item(order, item)
    tally = Tally(order)
    return ratio(_count_with(order, tally, pin_set, 1 << item, 0), tally.how_many(pin_set.open_mask))


def four_of(order, pins, item, far):
    """How many LOWERS that fit have both items, item alone, far alone, none of both; BadItem of item as far."""
    order = wanted_order(order)
    pin_set = wanted_pins(order, pins)
    item = wanted_item(order, item)
    other = wanted_item(order, far)
    if other == item:
        raise BadItem(far)
    tally = Tally(order)
    one = 1 << item
    two = 1 << other
    return tuple([
        _count_with(order, tally, pin_set, inside, (one | two) & ~inside) for inside in (one | two, one, two, 0)
    ])


def _count_with(order, tally, pin_set, inside, outside):
    """How many LOWERS fit when these items are put into IN and OUT, too."""
    wider = PinSet(order, pin_set.inside | inside, pin_set.outside | outside)
    return 0 if wider.do_clash() else tally.how_many(wider.open_mask)
