"""Told LOWERS: what is nearest to them, what is there by betweens and by middles; what is farthest from one."""

from turnsall.closures import has_bit, lot_of, mask_of, masks_ahead, size_of
from turnsall.dearest import Dearest
from turnsall.wanted import wanted_lower, wanted_lowers, wanted_order


def nearest_ends(order, lowers):
    """The pair of the low and the high NEAREST one."""
    order = wanted_order(order)
    masks = _wanted_masks(order, lowers)
    counts = _counts(order, masks)
    low = [item for item, count in enumerate(counts) if 2 * count > len(masks)]
    high = [item for item, count in enumerate(counts) if 2 * count >= len(masks)]
    return (tuple(low), tuple(high))


def least_sum(order, lowers):
    """The least SUM."""
    order = wanted_order(order)
    masks = _wanted_masks(order, lowers)
    return sum([min(count, len(masks) - count) for count in _counts(order, masks)])


def sum_from(order, lowers, lower):
    """How far the LOWER is from each told one, together."""
    order = wanted_order(order)
    masks = _wanted_masks(order, lowers)
    mask = mask_of(wanted_lower(order, lower))
    return sum([size_of(mask ^ told) for told in masks])


def between_ends(order, lowers):
    """The pair of the MEET and the JOIN of all."""
    order = wanted_order(order)
    masks = _wanted_masks(order, lowers)
    counts = _counts(order, masks)
    common = [item for item, count in enumerate(counts) if count == len(masks)]
    some = [item for item, count in enumerate(counts) if count > 0]
    return (tuple(common), tuple(some))


def is_by_middles(order, lowers, lower):
    """Whether the LOWER is there by middles."""
    order = wanted_order(order)
    masks = _wanted_masks(order, lowers)
    mask = mask_of(wanted_lower(order, lower))
    items = list(range(order[0]))
    # An item beside itself is one alone.
    pairs = [1 << item | 1 << other for item in items for other in items if item <= other]
    return all([any([told & pair == mask & pair for told in masks]) for pair in pairs])


def farthest_ends(order, lower):
    """The pair of the least and the greatest FARTHEST one."""
    order = wanted_order(order)
    lower = wanted_lower(order, lower)
    # The farther a LOWER is, the more it is worth.
    dearest = Dearest(masks_ahead(order), [-1 if item in lower else 1 for item in range(order[0])])
    return (lot_of(dearest.least_mask), lot_of(dearest.greatest_mask))


def _wanted_masks(order, lowers):
    return [mask_of(lower) for lower in wanted_lowers(order, lowers)]


def _counts(order, masks):
    """For each item how many of the told LOWERS have it."""
    return [len([mask for mask in masks if has_bit(mask, item)]) for item in range(order[0])]
