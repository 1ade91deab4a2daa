"""ORDERS and lots of items as bits of an integer; what is here takes plain right values alone."""

from turnsall.errors import TooMany


def mask_of(lot):
    """The integer with the bits of the items."""
    mask = 0
    for item in lot:
        mask |= 1 << item
    return mask


def lot_of(mask):
    """The LOT of the items whose bits are in the integer."""
    return tuple([item for item in range(mask.bit_length()) if has_bit(mask, item)])


def has_bit(mask, item):
    """Whether the bit of the item is there."""
    return (mask >> item) & 1 == 1


def is_within(mask, whole):
    """Whether all bits of the one are in the other one."""
    return mask & whole == mask


def size_of(mask):
    """How many bits there are."""
    return f"{mask:b}".count("1")


def with_all(masks, mask):
    """The bits of these items and of all that the masks, one for each item, have for them."""
    whole = mask
    for item in lot_of(mask):
        whole |= masks[item]
    return whole


def masks_ahead(order):
    """For each item the bits of all items that are ahead of it."""
    many, pairs = order
    straight = [0] * many
    for item, far in pairs:
        straight[far] |= 1 << item
    ahead = []
    # What is ahead of an item is less than it, so its own bits are there by then.
    for item in range(many):
        mask = straight[item]
        for lesser in lot_of(straight[item]):
            mask |= ahead[lesser]
        ahead.append(mask)
    return ahead


def masks_behind(order):
    """For each item the bits of all items that are behind it."""
    ahead = masks_ahead(order)
    behind = [0] * len(ahead)
    for far, mask in enumerate(ahead):
        for item in lot_of(mask):
            behind[item] |= 1 << far
    return behind


def closed_by(ahead):
    """The CLOSED form of the ORDER with these bits ahead of its items."""
    pairs = [(item, far) for far, mask in enumerate(ahead) for item in lot_of(mask)]
    return (len(ahead), tuple(sorted(pairs)))


def bare_by(ahead):
    """The BARE form of the ORDER with these bits ahead of its items."""
    pairs = []
    for far, mask in enumerate(ahead):
        between = 0
        for item in lot_of(mask):
            between |= ahead[item]
        pairs.extend([(item, far) for item in lot_of(mask & ~between)])
    return (len(ahead), tuple(sorted(pairs)))


def narrowed_by(ahead, lot):
    """For each item of the LOT the bits of those of it that are ahead, all by their places in the LOT."""
    return [
        mask_of([spot for spot, other in enumerate(lot) if has_bit(ahead[item], other)]) for item in lot
    ]


def is_lower_mask(ahead, mask):
    """Whether with each item of the bits all that are ahead of it are there."""
    return all([is_within(ahead[item], mask) for item in lot_of(mask)])


def can_be_put(ahead, lower):
    """The LOT of the items that can be put to a LOWER."""
    mask = mask_of(lower)
    return tuple([
        item for item, needed in enumerate(ahead)
        if not has_bit(mask, item) and is_within(needed, mask)
    ])


def can_be_taken(ahead, lower):
    """The LOT of the items that can be taken from a LOWER."""
    needed = 0
    for item in lower:
        needed |= ahead[item]
    return tuple([item for item in lower if not has_bit(needed, item)])


def lowers_of(order, most):
    """The ascending tuple of all LOWERS; TooMany of more than most."""
    found = []
    _add_lowers(masks_ahead(order), (), found, most)
    return tuple(found)


def _add_lowers(ahead, lower, found, most):
    if len(found) == most:
        raise TooMany(most)
    found.append(lower)
    # Each LOWER comes behind the one without its last item, which is a LOWER, too.
    for item in can_be_put(ahead, lower):
        if not lower or item > lower[-1]:
            _add_lowers(ahead, lower + (item,), found, most)
