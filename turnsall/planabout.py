"""WORLDS of plans turned about and shifted, and BOUNDS that could be left out."""

from turnsall.errors import BadBound, BadShift
from turnsall.kinds import is_number, plain
from turnsall.planworlds import are_spans, steps_of
from turnsall.roads import roads_from
from turnsall.tables import table_of_word


def plan_about(world):
    """The WORLD in which each time is 0 less it."""
    frame = table_of_word(world, "plan").frame
    spans = [(0 - high, 0 - low) for low, high in frame.spans]
    bounds = [(other, job, most) for job, other, most in frame.bounds]
    return ("plan", tuple(spans), tuple(sorted(bounds)))


def times_about(world, solution):
    """The SOLUTION turned about."""
    times = table_of_word(world, "plan").wanted_solution(solution)
    return tuple([0 - time for time in times])


def plan_shifted(world, by):
    """The WORLD with LOW and HIGH of all jobs greater by an integer; BadShift."""
    frame = table_of_word(world, "plan").frame
    more = plain(by)
    if not isinstance(more, int):
        raise BadShift(by)
    spans = tuple([(low + more, high + more) for low, high in frame.spans])
    if not are_spans(spans):
        raise BadShift(by)
    return ("plan", spans, frame.bounds)


def idle_bounds(world):
    """The numbers of all BOUNDS without which the WORLD has the same SOLUTIONS, each by itself, ascending."""
    frame = table_of_word(world, "plan").frame
    return tuple([spot for spot in range(len(frame.bounds)) if _is_idle(frame, spot)])


def without_bound(world, spot):
    """The WORLD without one of BOUNDS, perhaps with more than 20 TURNS; BadBound."""
    frame = table_of_word(world, "plan").frame
    number = plain(spot)
    if not is_number(number, 0, len(frame.bounds) - 1):
        raise BadBound(spot)
    return ("plan", frame.spans, _all_but(frame.bounds, number))


def _is_idle(frame, spot):
    """Whether a ROAD without the STEP of this one of BOUNDS is no longer than it."""
    job, other, most = frame.bounds[spot]
    steps = steps_of(frame.spans, _all_but(frame.bounds, spot))
    lengths, _ = roads_from(frame.many + 1, steps, job)
    # By way of the clock there is a ROAD from each job to each other one.
    return lengths[other] <= most


def _all_but(bounds, spot):
    return bounds[:spot] + bounds[spot + 1:]
