"""Rows of items, none behind one that it is ahead of; items are told as bits."""

from turnsall.closures import lot_of


def rows_of(ahead, mask, known):
    """How many rows the items of the bits have; known is a dict of what is found, by bits."""
    if mask == 0:
        return 1
    if mask not in known:
        known[mask] = sum([
            rows_of(ahead, mask & ~(1 << item), known) for item in lot_of(mask) if ahead[item] & mask == 0
        ])
    return known[mask]
