"""POINTS, STEPS and HEIGHTS of FIELDS; what is here takes plain right values alone."""

from turnsall.fields import cells_beside, has_as_many, is_dark, is_laying_of
from turnsall.kinds import is_number, is_tuple_of

LAST_CORNER = 6
# How many of both hands' CELLS are in the FIELD: by a BORDER STEP, and by any STEP.
BORDER_HANDS = (1,)
ALL_HANDS = (1, 2)


def points_in(field):
    """All POINTS of the FIELD, ascending."""
    corners = [(row + down, column + right) for row, column in field for down in (0, 1) for right in (0, 1)]
    return tuple(sorted(set(corners)))


def hands_of(point, goal):
    """What is at the right and at the left hand of one who goes from the POINT to the one beside it."""
    row, column = point
    if goal == (row, column + 1):
        return (row, column), (row - 1, column)
    if goal == (row + 1, column):
        return (row, column - 1), (row, column)
    if goal == (row, column - 1):
        return (row - 1, column - 1), (row, column - 1)
    return (row - 1, column), (row - 1, column - 1)


def is_step(field, point, goal):
    """Whether a STEP leads from the POINT to the one beside it."""
    right, left = hands_of(point, goal)
    return right in field or left in field


def steps_in(field):
    """All STEPS as pairs (POINT, POINT)."""
    inside = inside_of(field)
    return [
        (point, goal) for point in points_in(field) for goal in cells_beside(point)
        if is_step(inside, point, goal)
    ]


def inside_of(field):
    """The dict of the CELLS, each with True: it can be passed as the FIELD where cells are only looked for."""
    return {cell: True for cell in field}


def is_point(value):
    """Whether what plain() told is a pair that can be a POINT of some FIELD."""
    return is_tuple_of(value, 2) and is_number(value[0], 0, LAST_CORNER) and is_number(value[1], 0, LAST_CORNER)


def is_border_step(field, point, goal):
    """Whether just one of both hands is in the FIELD."""
    right, left = hands_of(point, goal)
    return (right in field) != (left in field)


def rise_of(tiles, point, goal):
    """The RISE of a STEP, tiles having all TILES as keys; by no tiles that of a STEP that crosses none."""
    right, left = hands_of(point, goal)
    crossed = (min(right, left), max(right, left)) in tiles
    if is_dark(right):
        return -3 if crossed else 1
    return 3 if crossed else -1


def greatest_rise(field, point, goal):
    """The GREATEST RISE of a STEP."""
    if is_border_step(field, point, goal) or is_dark(hands_of(point, goal)[0]):
        return rise_of({}, point, goal)
    return 3


def heights_in(field, laying):
    """The dict of the HEIGHT of each POINT in the LAYING."""
    return _heights_by(field, {tile: True for tile in laying}, ALL_HANDS)


def heights_of_border(field):
    """The dict of the HEIGHT of each POINT of the BORDER; None of a FIELD with unlike numbers of CELLS."""
    return _heights_by(field, {}, BORDER_HANDS) if has_as_many(field) else None


def _heights_by(field, tiles, hands):
    """The dict of what STEPS rise from the least POINT, by those with so many CELLS at their hands."""
    inside = inside_of(field)
    # The least POINT is the upper left corner of the least CELL.
    heights = {field[0]: 0}
    reached = [field[0]]
    while reached:
        point = reached.pop()
        for goal in cells_beside(point):
            if goal not in heights and len([hand for hand in hands_of(point, goal) if hand in inside]) in hands:
                heights[goal] = heights[point] + rise_of(tiles, point, goal)
                reached.append(goal)
    return heights


def laying_by(field, heights):
    """The LAYING with these HEIGHTS, a dict with an integer for each POINT; None if none has them."""
    tiles = []
    for point, goal in steps_in(field):
        right, left = hands_of(point, goal)
        # Across a TILE one falls by 3 with the dark CELL at the right hand; by no other STEP so much.
        if is_dark(right) and heights[goal] - heights[point] == -3:
            tiles.append((min(right, left), max(right, left)))
    laying = tuple(sorted(tiles))
    if not is_laying_of(field, laying) or heights_in(field, laying) != heights:
        return None
    return laying
