"""FIELDS, their LAYINGS, and whether they have one."""

from turnsall.errors import BadPaper
from turnsall.fields import cells_beside, first_laying, has_as_many, is_laying_of, layings_of
from turnsall.kinds import is_number, plain, starts_with
from turnsall.rises import (
    greatest_rise, heights_of_border, inside_of, is_border_step, is_point, is_step, points_in, steps_in,
)
from turnsall.roads import road_to, roads_from
from turnsall.wantedfields import wanted_field

LEAST_WALK = 2
MOST_WALK = 99


def need_field(thing):
    """The FIELD itself; BadField of what is none."""
    wanted_field(thing)
    return thing


def is_laying(field, value):
    """Whether any value is a LAYING of the FIELD."""
    return is_laying_of(wanted_field(field), plain(value))


def all_layings(field):
    """All LAYINGS of the FIELD, ascending."""
    return layings_of(wanted_field(field))


def laying_paper(field):
    """A PAPER on whether the FIELD has a LAYING."""
    field = wanted_field(field)
    if not has_as_many(field):
        return ("unlike",)
    laying = first_laying(field)
    if laying is not None:
        return ("laid", laying)
    return ("walk", _walk_that_bars(field))


def check_laying(field, paper):
    """The first word of a PAPER that holds; BadPaper of any other value."""
    field = wanted_field(field)
    paper = plain(paper)
    if starts_with(paper, "unlike", 1):
        held = not has_as_many(field)
    elif starts_with(paper, "laid", 2):
        held = is_laying_of(field, paper[1])
    elif starts_with(paper, "walk", 2):
        held = _does_bar(field, paper[1])
    else:
        raise BadPaper("form")
    if not held:
        raise BadPaper(paper[0])
    return paper[0]


def _does_bar(field, walk):
    """Whether it is a WALK that bars, the FIELD having as many dark as light CELLS."""
    heights = heights_of_border(field)
    inside = inside_of(field)
    if heights is None or not _is_walk(inside, walk):
        return False
    if walk[0] not in heights or walk[-1] not in heights:
        return False
    rises = [greatest_rise(inside, point, goal) for point, goal in zip(walk, walk[1:])]
    return sum(rises) < heights[walk[-1]] - heights[walk[0]]


def _is_walk(inside, walk):
    """Whether it is a WALK, but for its ends, which may be beside the BORDER."""
    if not isinstance(walk, tuple) or not is_number(len(walk), LEAST_WALK, MOST_WALK):
        return False
    if not all([is_point(point) for point in walk]):
        return False
    return all([goal in cells_beside(point) and is_step(inside, point, goal) for point, goal in zip(walk, walk[1:])])


def _walk_that_bars(field):
    """A WALK that bars; the FIELD has as many dark as light CELLS, and no LAYING."""
    heights = heights_of_border(field)
    points = points_in(field)
    steps = _inner_steps(field, points)
    start = _start_that_bars(heights, points, steps)
    lengths, before = roads_from(len(points), steps, points.index(start))
    for goal in sorted(heights):
        length = lengths[points.index(goal)]
        if length is not None and length < heights[goal] - heights[start]:
            return tuple([points[spot] for spot in road_to(before, points.index(goal))])
    return None


def _start_that_bars(heights, points, steps):
    """The least POINT of the BORDER from which a WALK bars."""
    # Behind all POINTS stands one from which steps against the others lead to each POINT of the BORDER.
    back = [(goal, spot, by) for spot, goal, by in steps]
    back.extend([(len(points), spot, 0 - heights[point]) for spot, point in enumerate(points) if point in heights])
    lengths, _ = roads_from(len(points) + 1, back, len(points))
    return min([point for spot, point in enumerate(points) if point in heights and lengths[spot] < 0 - heights[point]])


def _inner_steps(field, points):
    """The steps between the numbers of the POINTS by GREATEST RISES, without BORDER STEPS.

    Along the BORDER nothing is gained: a BORDER STEP rises by just what HEIGHTS of the BORDER differ.
    """
    inside = inside_of(field)
    spots = {point: spot for spot, point in enumerate(points)}
    return [
        (spots[point], spots[goal], greatest_rise(inside, point, goal))
        for point, goal in steps_in(field) if not is_border_step(inside, point, goal)
    ]
