"""Levels of WORTHS, the FALL, and CARRIES that make it."""

from turnsall.closures import has_bit, lot_of, mask_of, masks_ahead, size_of
from turnsall.dearest import Dearest
from turnsall.errors import BadCarry
from turnsall.kinds import is_ascending, is_number, is_tuple_of, plain
from turnsall.ratios import added, is_ratio, negative, ratio
from turnsall.wanted import wanted_order, wanted_worths


def levels(order, worths):
    """The tuple of all levels, pairs (LOT, MEAN), in turn."""
    order = wanted_order(order)
    return _levels_of(masks_ahead(order), wanted_worths(order, worths))


def fall_of(order, worths):
    """The tuple with the MEAN of its level for each item."""
    order = wanted_order(order)
    return _fall_by(masks_ahead(order), wanted_worths(order, worths))


def carry_for(order, worths):
    """A CARRY that makes the FALL."""
    order = wanted_order(order)
    worths = wanted_worths(order, worths)
    ahead = masks_ahead(order)
    carry = []
    for lot, mean in _levels_of(ahead, worths):
        # Within a level what is more than the MEAN can just be carried to what is less and ahead.
        dearest = _dearest_beyond(ahead, worths, mask_of(lot), mean)
        carry.extend([(far, item, ratio(amount, mean[1])) for item, far, amount in dearest.flow])
    return tuple(sorted(carry))


def made_by(order, worths, carry):
    """The tuple that the CARRY makes of the WORTHS."""
    order = wanted_order(order)
    worths = wanted_worths(order, worths)
    return _made(worths, _wanted_carry(masks_ahead(order), carry))


def does_fall(order, worths, carry):
    """Whether the CARRY makes the FALL."""
    order = wanted_order(order)
    worths = wanted_worths(order, worths)
    ahead = masks_ahead(order)
    return _made(worths, _wanted_carry(ahead, carry)) == _fall_by(ahead, worths)


def _levels_of(ahead, worths):
    rest = (1 << len(worths)) - 1
    found = []
    while rest:
        mask, mean = _next_level(ahead, worths, rest)
        found.append((lot_of(mask), mean))
        rest &= ~mask
    return tuple(found)


def _next_level(ahead, worths, rest):
    """The bits of the level that comes first of those that are left, and its MEAN."""
    mask = rest
    while True:
        mean = ratio(sum([worths[item] for item in lot_of(mask)]), size_of(mask))
        dearest = _dearest_beyond(ahead, worths, rest, mean)
        mask = dearest.greatest_mask & rest
        # What is worth nothing beyond the MEAN has just this one, and no lot has a greater one.
        if dearest.greatest_worth() == 0:
            return mask, mean


def _dearest_beyond(ahead, worths, rest, mean):
    """What is dearest of the items of the bits by what they are worth more than the MEAN, as often as its BOTTOM."""
    top, bottom = mean
    beyond = [worth * bottom - top if has_bit(rest, item) else 0 for item, worth in enumerate(worths)]
    # What is not among the items is ahead of nothing here.
    return Dearest([mask & rest if has_bit(rest, item) else 0 for item, mask in enumerate(ahead)], beyond)


def _fall_by(ahead, worths):
    means = {}
    for lot, mean in _levels_of(ahead, worths):
        for item in lot:
            means[item] = mean
    return tuple([means[item] for item in range(len(worths))])


def _made(worths, carry):
    made = [(worth, 1) for worth in worths]
    for item, far, amount in carry:
        made[item] = added(made[item], amount)
        made[far] = added(made[far], negative(amount))
    return tuple(made)


def _wanted_carry(ahead, given):
    carry = plain(given)
    if not isinstance(carry, tuple) or not all([_is_carried(ahead, thing) for thing in carry]):
        raise BadCarry(given)
    if not is_ascending([triple[:2] for triple in carry]):
        raise BadCarry(given)
    return carry


def _is_carried(ahead, value):
    """Whether it can be one of a CARRY."""
    if not is_tuple_of(value, 3) or not is_ratio(value[2]) or value[2][0] < 1:
        return False
    item, far, _ = value
    last = len(ahead) - 1
    return is_number(item, 0, last) and is_number(far, 0, last) and has_bit(ahead[far], item)
