"""Arguments about ORDERS, of any kind: each is told as a plain one, or refused."""

from turnsall.closures import is_lower_mask, mask_of, masks_ahead
from turnsall.errors import BadItem, BadLot, BadLower, BadLowers, BadOrder, BadWorths
from turnsall.kinds import is_ascending, is_lot, is_number, is_tuple_of, plain

MOST_ITEMS = 20
MOST_LOWERS = 8
MOST_WORTH = 1000


def wanted_order(thing):
    """The ORDER; BadOrder."""
    order = plain(thing)
    if not is_tuple_of(order, 2):
        raise BadOrder("form")
    many, pairs = order
    if not is_number(many, 0, MOST_ITEMS):
        raise BadOrder("many")
    if not _are_pairs(many, pairs):
        raise BadOrder("pairs")
    return order


def _are_pairs(many, pairs):
    if not isinstance(pairs, tuple):
        return False
    # A pair of items, the first one less, is a LOT of two.
    return all([is_tuple_of(pair, 2) and is_lot(pair, many) for pair in pairs]) and is_ascending(pairs)


def wanted_item(order, thing):
    """The item; BadItem."""
    item = plain(thing)
    if not is_number(item, 0, order[0] - 1):
        raise BadItem(thing)
    return item


def wanted_lot(order, thing):
    """The LOT; BadLot."""
    lot = plain(thing)
    if not is_lot(lot, order[0]):
        raise BadLot(thing)
    return lot


def wanted_lower(order, thing):
    """The LOWER; BadLower."""
    lower = plain(thing)
    if not is_plain_lower(order, lower):
        raise BadLower(thing)
    return lower


def wanted_lowers(order, thing):
    """Told LOWERS; BadLowers."""
    lowers = plain(thing)
    if not isinstance(lowers, tuple) or not is_number(len(lowers), 1, MOST_LOWERS):
        raise BadLowers(thing)
    if not all([is_plain_lower(order, lower) for lower in lowers]):
        raise BadLowers(thing)
    return lowers


def wanted_worths(order, thing):
    """The WORTHS; BadWorths."""
    worths = plain(thing)
    if not is_tuple_of(worths, order[0]) or not all([is_number(each, 0 - MOST_WORTH, MOST_WORTH) for each in worths]):
        raise BadWorths(thing)
    return worths


def is_plain_lower(order, value):
    """Whether what plain() told is a LOWER."""
    return is_lot(value, order[0]) and is_lower_mask(masks_ahead(order), mask_of(value))
