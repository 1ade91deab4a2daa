"""POINTS, STEPS and HEIGHTS of FIELDS; what is here takes plain right values alone."""

from turnsall.fields import cells_beside, has_as_many, is_dark, is_laying_of


def points_in(field):
    """All POINTS of the FIELD, ascending."""
    corners = [(row + down, column + right) for row, column in field for down in (0, 1) for right in (0, 1)]
    return tuple(sorted(set(corners)))


def hands_of(point, goal):
    """What is at the right and at the left hand of one who goes from the POINT to the one beside it."""
    row, column = point
    if goal == (row, column + 1):
        return (row, column), (row - 1, column)
    if goal == (row + 1, column):
        return (row, column - 1), (row, column)
    if goal == (row, column - 1):
        return (row - 1, column - 1), (row, column - 1)
    return (row - 1, column), (row - 1, column - 1)


def steps_in(field):
    """All STEPS as pairs (POINT, POINT)."""
    steps = []
    for point in points_in(field):
        for goal in cells_beside(point):
            right, left = hands_of(point, goal)
            if right in field or left in field:
                steps.append((point, goal))
    return steps


def is_border_step(field, point, goal):
    """Whether just one of both hands is in the FIELD."""
    right, left = hands_of(point, goal)
    return (right in field) != (left in field)


def rise_of(tiles, point, goal):
    """The RISE of a STEP, tiles having all TILES as keys; by no tiles that of a STEP that crosses none."""
    right, left = hands_of(point, goal)
    crossed = (min(right, left), max(right, left)) in tiles
    if is_dark(right):
        return -3 if crossed else 1
    return 3 if crossed else -1


def greatest_rise(field, point, goal):
    """The GREATEST RISE of a STEP."""
    if is_border_step(field, point, goal) or is_dark(hands_of(point, goal)[0]):
        return rise_of({}, point, goal)
    return 3


def heights_in(field, laying):
    """The dict of the HEIGHT of each POINT in the LAYING."""
    tiles = {tile: True for tile in laying}
    return _heights_along([(step, rise_of(tiles, step[0], step[1])) for step in steps_in(field)])


def heights_of_border(field):
    """The dict of the HEIGHT of each POINT of the BORDER; None of a FIELD with unlike numbers of CELLS."""
    if not has_as_many(field):
        return None
    steps = [step for step in steps_in(field) if is_border_step(field, step[0], step[1])]
    return _heights_along([(step, rise_of({}, step[0], step[1])) for step in steps])


def _heights_along(rises):
    """The dict of what STEPS with these RISES rise from the least POINT, the STEPS being ascending."""
    heights = {rises[0][0][0]: 0}
    found = True
    while found:
        found = False
        for (point, goal), rise in rises:
            if point in heights and goal not in heights:
                heights[goal] = heights[point] + rise
                found = True
    return heights


def laying_by(field, heights):
    """The LAYING with these HEIGHTS, a dict with an integer for each POINT; None if none has them."""
    tiles = []
    for point, goal in steps_in(field):
        right, left = hands_of(point, goal)
        # Across a TILE one falls by 3 with the dark CELL at the right hand; by no other STEP so much.
        if is_dark(right) and heights[goal] - heights[point] == -3:
            tiles.append((min(right, left), max(right, left)))
    laying = tuple(sorted(tiles))
    if not is_laying_of(field, laying) or heights_in(field, laying) != heights:
        return None
    return laying
