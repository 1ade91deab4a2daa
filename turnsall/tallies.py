"""How many LOWERS some items have by themselves, without going through all of them; items are told as bits."""

from turnsall.closures import lot_of, masks_ahead, masks_behind, size_of, with_all


class Tally:
    """What is left of items when one of them is in or out, and how many LOWERS they have."""

    def __init__(self, order):
        self.ahead = masks_ahead(order)
        self.behind = masks_behind(order)
        self.near = [ahead | behind for ahead, behind in zip(self.ahead, self.behind)]
        self.known = {0: (1,)}

    def left_with(self, mask, item):
        """What is left if the item is in, and so all that are ahead of it."""
        return mask & ~(self.ahead[item] | 1 << item)

    def left_without(self, mask, item):
        """What is left if the item is out, and so all that are behind it."""
        return mask & ~(self.behind[item] | 1 << item)

    def part_of(self, mask):
        """Those of the items to which one comes from the least one, from each to those ahead of it or behind it."""
        part = 0
        wider = mask & -mask
        while wider != part:
            part = wider
            wider = with_all(self.near, part) & mask
        return part

    def busiest(self, mask):
        """The one of the items with the most ahead of it and behind it, of several the least."""
        return min([(0 - size_of(self.near[item] & mask), item) for item in lot_of(mask)])[1]

    def sizes_of(self, mask):
        """How many LOWERS the items have with 0 items, 1 item, and so on, up to all of them."""
        if mask not in self.known:
            self.known[mask] = self._counted(mask)
        return self.known[mask]

    def how_many(self, mask):
        """How many LOWERS the items have."""
        return sum(self.sizes_of(mask))

    def _counted(self, mask):
        part = self.part_of(mask)
        if part != mask:
            return _product(self.sizes_of(part), self.sizes_of(mask & ~part))
        item = self.busiest(mask)
        rest = self.left_with(mask, item)
        counts = [0] * (size_of(mask) + 1)
        # With the item all that are ahead of it are in, too.
        _add(counts, size_of(mask & ~rest), self.sizes_of(rest))
        _add(counts, 0, self.sizes_of(self.left_without(mask, item)))
        return tuple(counts)


def _add(counts, start, more):
    """Adds to the counts, from the place start on, more."""
    for spot, count in enumerate(more):
        counts[start + spot] += count


def _product(first, second):
    """How many pairs of one of each have so many items together."""
    counts = [0] * (len(first) + len(second) - 1)
    for spot, count in enumerate(first):
        _add(counts, spot, [count * other for other in second])
    return tuple(counts)
