"""FIELDS and their LAYINGS; what is here takes what plain() told."""

from turnsall.kinds import is_ascending, is_number, is_tuple_of

LEAST_CELLS = 2
MOST_CELLS = 16
# Each ROW and each COLUMN is one of these.
LINES = (0, 1, 2, 3, 4, 5)
# All pairs of integers from -1 to 6 are the bits of one integer, eight for each row.
ROW_BITS = 8
ALL_BITS = 64


def is_field(value):
    """Whether it is a FIELD."""
    if not isinstance(value, tuple) or not is_number(len(value), LEAST_CELLS, MOST_CELLS):
        return False
    if not all([_is_cell(cell) for cell in value]) or not is_ascending(value):
        return False
    mask = 0
    for row, column in value:
        mask |= 1 << ((row + 1) * ROW_BITS + column + 1)
    whole = (1 << ALL_BITS) - 1
    return _holds_together(mask) and _holds_together(whole & ~mask)


def _is_cell(value):
    return isinstance(value, tuple) and len(value) == 2 and value[0] in LINES and value[1] in LINES


def _holds_together(mask):
    """Whether one comes from each to each other one by those beside one another.

    From the end of a row one comes to the next row, too: there all pairs are outside, and come to one another anyway.
    """
    found = 0
    wider = mask & -mask
    while wider != found:
        found = wider
        wider = mask & (found | found << 1 | found >> 1 | found << ROW_BITS | found >> ROW_BITS)
    return found == mask


def cells_beside(cell):
    """The four pairs of integers beside one."""
    row, column = cell
    return [(row - 1, column), (row, column - 1), (row, column + 1), (row + 1, column)]


def is_dark(pair):
    """Whether ROW and COLUMN are together even."""
    return (pair[0] + pair[1]) & 1 == 0


def has_as_many(field):
    """Whether the FIELD has as many dark as light CELLS."""
    return 2 * len([cell for cell in field if is_dark(cell)]) == len(field)


def is_laying_of(field, value):
    """Whether it is a LAYING of the FIELD."""
    if not isinstance(value, tuple) or 2 * len(value) != len(field):
        return False
    if not all([_is_tile(tile) for tile in value]) or not is_ascending(value):
        return False
    return sorted([cell for tile in value for cell in tile]) == list(field)


def _is_tile(value):
    """Whether it is a TILE of CELLS, be they in the FIELD or not."""
    if not is_tuple_of(value, 2) or not _is_cell(value[0]) or not _is_cell(value[1]):
        return False
    (row, column), other = value
    return other == (row, column + 1) or other == (row + 1, column)


def tiles_of(field):
    """All TILES of CELLS of the FIELD, ascending."""
    inside = {cell: True for cell in field}
    tiles = []
    for row, column in field:
        for other in ((row, column + 1), (row + 1, column)):
            if other in inside:
                tiles.append(((row, column), other))
    return tiles


def layings_of(field):
    """All LAYINGS, ascending."""
    return tuple(_layings_from(_ways_by_cell(field), _all_bare(field), {0: [()]}))


def _layings_from(ways, bare, known):
    """All that lays the CELLS of the bits that are bare, ascending; known has what was found, by these bits."""
    if bare not in known:
        found = []
        for both, tile in _ways_at(ways, bare):
            found.extend([(tile,) + rest for rest in _layings_from(ways, bare & ~both, known)])
        known[bare] = found
    return known[bare]


def first_laying(field):
    """The least LAYING, None if there is none."""
    return _first_from(_ways_by_cell(field), _all_bare(field))


def _first_from(ways, bare):
    """The least of all that lays the CELLS of the bits that are bare, None if nothing does."""
    if bare == 0:
        return ()
    for both, tile in _ways_at(ways, bare):
        rest = _first_from(ways, bare & ~both)
        if rest is not None:
            return (tile,) + rest
    return None


def _all_bare(field):
    return (1 << len(field)) - 1


def _ways_by_cell(field):
    """For the bit of each CELL, by its place, all TILES in which it is the lesser one, with the bits of both CELLS."""
    bits = {cell: 1 << spot for spot, cell in enumerate(field)}
    ways = {bits[cell]: [] for cell in field}
    for tile in tiles_of(field):
        first, second = tile
        ways[bits[first]].append((bits[first] | bits[second], tile))
    return ways


def _ways_at(ways, bare):
    """The ways to lay the least CELL that is bare: with the one to the right or the one below alone."""
    return [(both, tile) for both, tile in ways[bare & -bare] if both & bare == both]
