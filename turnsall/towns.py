"""Towns: blocks, corners and streets, and WAYS by OUTS; what is here takes plain right values alone."""

from turnsall.kinds import is_number, is_tuple_of

MOST_SIZE = 3
MOST_OUT = 4


def corner_count(rows, columns):
    """How many corners there are."""
    return (rows + 1) * (columns + 1)


def ends_of(rows, columns):
    """For each street the pair of its corners, the left one or the upper one first."""
    wide = columns + 1
    lying = [(row * wide + column, row * wide + column + 1) for row in range(rows + 1) for column in range(columns)]
    standing = [(row * wide + column, (row + 1) * wide + column) for row in range(rows) for column in range(wide)]
    return tuple(lying + standing)


def sides_of(rows, columns):
    """For each street the pair of what is at the right and at the left hand of WAYS with 1."""
    sides = []
    for row in range(rows + 1):
        for column in range(columns):
            below = block_at(rows, columns, row, column)
            sides.append((below, block_at(rows, columns, row - 1, column)))
    for row in range(rows):
        for column in range(columns + 1):
            at_left_of_map = block_at(rows, columns, row, column - 1)
            sides.append((at_left_of_map, block_at(rows, columns, row, column)))
    return tuple(sides)


def block_at(rows, columns, row, column):
    """The number of the block, None for the outside."""
    if 0 <= row < rows and 0 <= column < columns:
        return row * columns + column
    return None


def are_ways(value, rows, columns):
    """Whether what plain() told are WAYS."""
    if not is_tuple_of(value, len(ends_of(rows, columns))):
        return False
    return all([is_number(way, 0, 1) for way in value])


def are_outs(value, rows, columns):
    """Whether what plain() told are OUTS."""
    if not is_tuple_of(value, corner_count(rows, columns)):
        return False
    return all([is_number(out, 0, MOST_OUT) for out in value])


def outs_by(rows, columns, ways):
    """The OUTS of which the WAYS are a SOLUTION."""
    outs = [0] * corner_count(rows, columns)
    for street, corners in enumerate(ends_of(rows, columns)):
        outs[corners[1 - ways[street]]] += 1
    return tuple(outs)


def ways_or_corners(rows, columns, outs):
    """The pair of a SOLUTION and None, or of None and corners with fewer OUTS than streets between them.

    OUTS are together as many as there are streets.
    """
    ends = ends_of(rows, columns)
    ways = [1] * len(ends)
    while True:
        told = outs_by(rows, columns, ways)
        over = [have - wanted for have, wanted in zip(told, outs)]
        if max(over) == 0:
            return tuple(ways), None
        came = _led_from(ends, ways, over.index(max(over)))
        lacking = [corner for corner in sorted(came) if over[corner] < 0]
        if not lacking:
            # All streets out of these corners end at them, and are more than OUTS tell.
            return None, tuple(sorted(came))
        _lead_back(ends, ways, came, lacking[0])


def _led_from(ends, ways, start):
    """For each corner to which streets lead from start the last street of these; None for start."""
    came = {start: None}
    reached = [start]
    while reached:
        corner = reached.pop()
        for street, corners in enumerate(ends):
            goal = corners[ways[street]]
            if corners[1 - ways[street]] == corner and goal not in came:
                came[goal] = street
                reached.append(goal)
    return came


def _lead_back(ends, ways, came, goal):
    """All streets by which one came to goal are led the other way."""
    street = came[goal]
    while street is not None:
        goal = ends[street][1 - ways[street]]
        ways[street] = 1 - ways[street]
        street = came[goal]
