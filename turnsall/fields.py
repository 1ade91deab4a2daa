"""FIELDS and their LAYINGS; what is here takes what plain() told."""

from turnsall.kinds import is_ascending, is_number, is_tuple_of

LEAST_CELLS = 2
MOST_CELLS = 16
LAST_ROW = 5


def is_field(value):
    """Whether it is a FIELD."""
    if not isinstance(value, tuple) or not is_number(len(value), LEAST_CELLS, MOST_CELLS):
        return False
    if not all([_is_cell(cell) for cell in value]) or not is_ascending(value):
        return False
    around = [
        (row, column) for row in range(-1, LAST_ROW + 2) for column in range(-1, LAST_ROW + 2)
        if (row, column) not in value
    ]
    return _holds_together(list(value)) and _holds_together(around)


def _is_cell(value):
    if not is_tuple_of(value, 2):
        return False
    return is_number(value[0], 0, LAST_ROW) and is_number(value[1], 0, LAST_ROW)


def _holds_together(cells):
    """Whether one comes from each to each other one by those beside one another."""
    found = {cells[0]: True}
    reached = [cells[0]]
    while reached:
        cell = reached.pop()
        for other in cells_beside(cell):
            if other in cells and other not in found:
                found[other] = True
                reached.append(other)
    return len(found) == len(cells)


def cells_beside(cell):
    """The four pairs of integers beside one."""
    row, column = cell
    return [(row - 1, column), (row, column - 1), (row, column + 1), (row + 1, column)]


def is_dark(pair):
    """Whether ROW and COLUMN are together even."""
    return (pair[0] + pair[1]) & 1 == 0


def has_as_many(field):
    """Whether the FIELD has as many dark as light CELLS."""
    return 2 * len([cell for cell in field if is_dark(cell)]) == len(field)


def is_laying_of(field, value):
    """Whether it is a LAYING of the FIELD."""
    if not isinstance(value, tuple) or 2 * len(value) != len(field):
        return False
    if not all([_is_tile(field, tile) for tile in value]) or not is_ascending(value):
        return False
    return sorted([cell for tile in value for cell in tile]) == list(field)


def _is_tile(field, value):
    """Whether it is a TILE with its lesser CELL, which comes first, in the FIELD."""
    if not is_tuple_of(value, 2):
        return False
    cell, other = value
    return cell in field and other in cells_beside(cell) and cell < other


def layings_of(field):
    """All LAYINGS, ascending."""
    found = []
    _add_layings(list(field), (), found)
    return tuple(found)


def _add_layings(bare, laid, found):
    """All LAYINGS that begin with the TILES laid, the CELLS that are bare being left."""
    if not bare:
        found.append(laid)
        return
    cell = bare[0]
    for other in bare[1:]:
        # The least CELL that is bare can go with the one to the right, or the one below, alone.
        if other in cells_beside(cell):
            rest = [each for each in bare if each != cell and each != other]
            _add_layings(rest, laid + ((cell, other),), found)
