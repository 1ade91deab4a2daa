"""GROUPS of dearest LOWERS, and their ORDER."""

from turnsall.closures import bare_by, has_bit, is_lower_mask, is_within, lot_of, mask_of, masks_ahead
from turnsall.dearest import Dearest
from turnsall.errors import BadLot
from turnsall.kinds import is_lot, plain
from turnsall.wanted import wanted_order, wanted_worths


def dearest_groups(order, worths):
    """The pair of the tuple of all GROUPS, by their numbers, and their ORDER."""
    order = wanted_order(order)
    dearest = Dearest(masks_ahead(order), wanted_worths(order, worths))
    groups = _groups_of(dearest)
    return (groups, bare_by(_ahead_of(dearest, groups)))


def dearest_by(order, worths, lot):
    """The dearest LOWER with the GROUPS with these numbers; BadLot of what is no LOWER of their ORDER."""
    order = wanted_order(order)
    dearest = Dearest(masks_ahead(order), wanted_worths(order, worths))
    groups = _groups_of(dearest)
    numbers = plain(lot)
    if not is_lot(numbers, len(groups)) or not is_lower_mask(_ahead_of(dearest, groups), mask_of(numbers)):
        raise BadLot(lot)
    mask = dearest.least_mask
    for number in numbers:
        mask |= mask_of(groups[number])
    return lot_of(mask)


def _groups_of(dearest):
    """All GROUPS, by their numbers."""
    left = _unnumbered(dearest)
    found = []
    placed = dearest.least_mask
    while left:
        # A GROUP comes when all to which it leads is in the least LOWER, in one ahead, or itself.
        group = min([each for each in left if is_within(dearest.leads[each[0]], placed | mask_of(each))])
        found.append(group)
        placed |= mask_of(group)
        left = [each for each in left if each != group]
    return tuple(found)


def _unnumbered(dearest):
    """All GROUPS, ascending."""
    items = lot_of(dearest.greatest_mask & ~dearest.least_mask)
    found = []
    for item in items:
        group = tuple([
            other for other in items
            if has_bit(dearest.leads[item], other) and has_bit(dearest.leads[other], item)
        ])
        if group[0] == item:
            found.append(group)
    return found


def _ahead_of(dearest, groups):
    """For each GROUP the bits of the numbers of all that are ahead of it."""
    ahead = []
    for number, group in enumerate(groups):
        ahead.append(mask_of([
            other for other in range(number) if has_bit(dearest.leads[group[0]], groups[other][0])
        ]))
    return ahead
