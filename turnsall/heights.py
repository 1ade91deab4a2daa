"""HEIGHTS of the POINTS of FIELDS."""

from turnsall.errors import BadHeights
from turnsall.kinds import is_tuple_of, plain
from turnsall.rises import heights_in, heights_of_border, laying_by, points_in
from turnsall.tables import table_of_word
from turnsall.wantedfields import wanted_field, wanted_laying


def points_of(field):
    """All POINTS, ascending."""
    return points_in(wanted_field(field))


def heights_of(field, laying):
    """The HEIGHTS of the LAYING."""
    field = wanted_field(field)
    return _told(heights_in(field, wanted_laying(field, laying)))


def laying_at(field, heights):
    """The LAYING with these HEIGHTS, None if none has them; BadHeights."""
    field = wanted_field(field)
    pairs = plain(heights)
    if not _are_heights(field, pairs):
        raise BadHeights(heights)
    return laying_by(field, _by_point(pairs))


def border_heights(field):
    """The HEIGHTS of the BORDER; None of a FIELD with unlike numbers of dark and light CELLS."""
    heights = heights_of_border(wanted_field(field))
    return None if heights is None else _told(heights)


def greatest_heights(world):
    """The HEIGHTS of the GREATEST SOLUTION."""
    table = table_of_word(world, "floor")
    return _told(heights_in(table.frame.field, table.greatest))


def flat_meet(world, solution, far_solution):
    """The SOLUTION with the lesser HEIGHT of both at each POINT."""
    field, pairs = _paired(world, solution, far_solution)
    return laying_by(field, {point: min(pair) for point, pair in pairs})


def flat_join(world, solution, far_solution):
    """The SOLUTION with the greater HEIGHT of both at each POINT."""
    field, pairs = _paired(world, solution, far_solution)
    return laying_by(field, {point: max(pair) for point, pair in pairs})


def _paired(world, solution, far_solution):
    """The FIELD, and for each POINT the pair of it and of the pair of its HEIGHTS in both SOLUTIONS."""
    table = table_of_word(world, "floor")
    field = table.frame.field
    heights = heights_in(field, table.wanted_solution(solution))
    far_heights = heights_in(field, table.wanted_solution(far_solution))
    return field, [(point, (heights[point], far_heights[point])) for point in points_in(field)]


def _told(heights):
    """The ascending tuple of pairs (POINT, HEIGHT) of a dict."""
    return tuple([(point, heights[point]) for point in sorted(heights)])


def _by_point(pairs):
    """The dict of pairs (POINT, HEIGHT)."""
    heights = {}
    for point, height in pairs:
        heights[point] = height
    return heights


def _are_heights(field, value):
    """Whether what plain() told is an ascending tuple of a pair of each POINT and an integer."""
    points = points_in(field)
    if not is_tuple_of(value, len(points)):
        return False
    return all([
        is_tuple_of(pair, 2) and pair[0] == point and isinstance(pair[1], int) for pair, point in zip(value, points)
    ])
