"""WAYS from LOWER to LOWER, and the short ones among them."""

from math import comb

from turnsall.closures import is_lower_mask, lot_of, mask_of, masks_ahead, size_of
from turnsall.errors import BadNumber, TooMany
from turnsall.itemrows import rows_of
from turnsall.kinds import is_lot, is_number, plain
from turnsall.wanted import wanted_lower, wanted_order

MOST_FAR = 12


def far_from(order, lower, other_lower):
    """How many items are in just one of both LOWERS."""
    _, (mask, goal) = _wanted(order, (lower, other_lower))
    return _distance(mask, goal)


def is_way(order, value):
    """Whether any value is a WAY."""
    return _masks_of_way(wanted_order(order), plain(value)) is not None


def is_short(order, value):
    """Whether any value is a short WAY."""
    masks = _masks_of_way(wanted_order(order), plain(value))
    return masks is not None and _distance(masks[0], masks[-1]) == len(masks) - 1


def first_way(order, lower, other_lower):
    """The least short WAY from lower to other_lower."""
    ahead, (mask, goal) = _wanted(order, (lower, other_lower))
    way = [lot_of(mask)]
    while mask != goal:
        mask = _next_masks(ahead, mask, goal)[0]
        way.append(lot_of(mask))
    return tuple(way)


def way_count(order, lower, other_lower):
    """How many short WAYS there are; TooMany(12) of LOWERS that are farther."""
    ahead, (mask, goal) = _wanted(order, (lower, other_lower))
    _need_near(mask, goal)
    return _ways_between(ahead, mask, goal, {})


def ways_through(order, lower, other_lower, third):
    """How many short WAYS have third; TooMany(12) of LOWERS that are farther."""
    ahead, (mask, goal, between) = _wanted(order, (lower, other_lower, third))
    _need_near(mask, goal)
    if _distance(mask, between) + _distance(between, goal) != _distance(mask, goal):
        return 0
    return _ways_between(ahead, mask, between, {}) * _ways_between(ahead, between, goal, {})


def way_at(order, lower, other_lower, number):
    """The short WAY with this number; TooMany(12) of LOWERS that are farther, BadNumber of no such number."""
    ahead, (mask, goal) = _wanted(order, (lower, other_lower))
    _need_near(mask, goal)
    known = {}
    left = plain(number)
    if not is_number(left, 0, _ways_between(ahead, mask, goal, known) - 1):
        raise BadNumber(number)
    way = [lot_of(mask)]
    while mask != goal:
        mask, left = _step_with(ahead, mask, goal, left, known)
        way.append(lot_of(mask))
    return tuple(way)


def _step_with(ahead, mask, goal, number, known):
    """The LOWER behind mask in the short WAY with the number, and the number of the rest among those from it."""
    for following in _next_masks(ahead, mask, goal):
        many = _ways_between(ahead, following, goal, known)
        if number < many:
            return following, number
        number -= many
    return None


def _wanted(order, lowers):
    """What is ahead of the items, and the list of the LOWERS, as bits."""
    order = wanted_order(order)
    return masks_ahead(order), [mask_of(wanted_lower(order, lower)) for lower in lowers]


def _distance(mask, goal):
    return size_of(mask ^ goal)


def _need_near(mask, goal):
    if _distance(mask, goal) > MOST_FAR:
        raise TooMany(MOST_FAR)


def _masks_of_way(order, value):
    """The LOWERS of a WAY as bits; None of what plain() told and is none."""
    if not isinstance(value, tuple) or not value or not all([is_lot(thing, order[0]) for thing in value]):
        return None
    ahead = masks_ahead(order)
    masks = [mask_of(lot) for lot in value]
    if not all([is_lower_mask(ahead, mask) for mask in masks]):
        return None
    if not all([_distance(mask, goal) == 1 for mask, goal in zip(masks, masks[1:])]):
        return None
    return masks


def _next_masks(ahead, mask, goal):
    """The LOWERS to which a STEP leads from one that are nearer to the other one, in turn."""
    changed = [mask ^ (1 << item) for item in lot_of(mask ^ goal)]
    return sorted([each for each in changed if is_lower_mask(ahead, each)], key=lot_of)


def _ways_between(ahead, mask, goal, known):
    """How many short WAYS there are; known is the dict of rows_of."""
    gone = mask & ~goal
    come = goal & ~mask
    turns = comb(_distance(mask, goal), size_of(gone))
    return rows_of(ahead, gone, known) * rows_of(ahead, come, known) * turns
