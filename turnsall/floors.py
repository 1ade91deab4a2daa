"""FIELDS, their LAYINGS, and whether they have one."""

from turnsall.errors import BadPaper
from turnsall.fields import has_as_many, is_laying_of, layings_of
from turnsall.kinds import is_number, plain, starts_with
from turnsall.rises import greatest_rise, heights_of_border, is_border_step, steps_in
from turnsall.roads import road_to, roads_from
from turnsall.wantedfields import wanted_field

LEAST_WALK = 2
MOST_WALK = 99


def need_field(thing):
    """The FIELD itself; BadField of what is none."""
    wanted_field(thing)
    return thing


def is_laying(field, value):
    """Whether any value is a LAYING of the FIELD."""
    return is_laying_of(wanted_field(field), plain(value))


def all_layings(field):
    """All LAYINGS of the FIELD, ascending."""
    return layings_of(wanted_field(field))


def laying_paper(field):
    """A PAPER on whether the FIELD has a LAYING."""
    field = wanted_field(field)
    if not has_as_many(field):
        return ("unlike",)
    layings = layings_of(field)
    if layings:
        return ("laid", layings[0])
    return ("walk", _walk_that_bars(field))


def check_laying(field, paper):
    """The first word of a PAPER that holds; BadPaper of any other value."""
    field = wanted_field(field)
    paper = plain(paper)
    if starts_with(paper, "unlike", 1):
        held = not has_as_many(field)
    elif starts_with(paper, "laid", 2):
        held = is_laying_of(field, paper[1])
    elif starts_with(paper, "walk", 2):
        held = _does_bar(field, paper[1])
    else:
        raise BadPaper("form")
    if not held:
        raise BadPaper(paper[0])
    return paper[0]


def _does_bar(field, walk):
    """Whether it is a WALK that bars, the FIELD having as many dark as light CELLS."""
    heights = heights_of_border(field)
    if heights is None or not _is_walk(field, heights, walk):
        return False
    rises = [greatest_rise(field, point, goal) for point, goal in zip(walk, walk[1:])]
    return sum(rises) < heights[walk[-1]] - heights[walk[0]]


def _is_walk(field, border, walk):
    """Whether it is a WALK, border having the POINTS of the BORDER as keys."""
    if not isinstance(walk, tuple) or not is_number(len(walk), LEAST_WALK, MOST_WALK):
        return False
    steps = steps_in(field)
    if not all([step in steps for step in zip(walk, walk[1:])]):
        return False
    return walk[0] in border and walk[-1] in border


def _walk_that_bars(field):
    """A WALK that bars; the FIELD has as many dark as light CELLS, and no LAYING."""
    heights = heights_of_border(field)
    points, steps = _inner_steps(field)
    for start in sorted(heights):
        lengths, before = roads_from(len(points), steps, points.index(start))
        for goal in sorted(heights):
            length = lengths[points.index(goal)]
            if length is not None and length < heights[goal] - heights[start]:
                return tuple([points[spot] for spot in road_to(before, points.index(goal))])
    return None


def _inner_steps(field):
    """All POINTS, and the steps between their numbers by GREATEST RISES, without BORDER STEPS.

    Along the BORDER nothing is gained: a BORDER STEP rises by just what HEIGHTS of the BORDER differ.
    """
    all_steps = steps_in(field)
    points = sorted(set([point for point, _ in all_steps]))
    steps = [
        (points.index(point), points.index(goal), greatest_rise(field, point, goal))
        for point, goal in all_steps if not is_border_step(field, point, goal)
    ]
    return points, steps
