"""ORDERS that are alike: the same but for the numbers of their items."""

from turnsall.closures import has_bit, masks_ahead
from turnsall.errors import TooMany
from turnsall.wanted import wanted_order

MOST_ALIKE = 7


def leads(order, other):
    """The least LEADS from the one to the other; None if they are not alike. TooMany(7) of more items."""
    order = wanted_order(order)
    other = wanted_order(other)
    if max(order[0], other[0]) > MOST_ALIKE:
        raise TooMany(MOST_ALIKE)
    found = _all_leads(order, other)
    return found[0] if found else None


def how_many_leads(order):
    """How many LEADS there are from the ORDER to itself; TooMany(7) of more items."""
    order = wanted_order(order)
    if order[0] > MOST_ALIKE:
        raise TooMany(MOST_ALIKE)
    return len(_all_leads(order, order))


def _all_leads(order, other):
    """All LEADS, ascending."""
    if order[0] != other[0]:
        return []
    ahead = masks_ahead(order)
    other_ahead = masks_ahead(other)
    begun = [()]
    for _ in range(order[0]):
        begun = [
            row + (far,) for row in begun for far in range(order[0])
            if far not in row and _goes_on(ahead, other_ahead, row, far)
        ]
    return begun


def _goes_on(ahead, other_ahead, row, far):
    """Whether the next item behind those of the row can lead to far."""
    item = len(row)
    for lesser, goal in enumerate(row):
        if has_bit(ahead[item], lesser) != has_bit(other_ahead[far], goal):
            return False
        if has_bit(other_ahead[goal], far):
            return False
    return True
