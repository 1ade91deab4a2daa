"""WORLDS of plans: whether there is a SOLUTION, the REACH, and how late and how early a job can be."""

from turnsall.errors import BadBounds, BadJob, BadPaper, BadPlace, BadSpans
from turnsall.kinds import is_number, plain, starts_with
from turnsall.planworlds import are_bounds, are_spans, are_times, steps_of
from turnsall.roads import ring_below, road_to, roads_from
from turnsall.tables import table_of_word


def plan_paper(spans, bounds):
    """A PAPER on whether there is a SOLUTION."""
    spans = _wanted_spans(spans)
    bounds = _wanted_bounds(spans, bounds)
    clock = len(spans)
    steps = steps_of(spans, bounds)
    ring = ring_below(clock + 1, steps)
    if ring is not None:
        return ("ring", _told(ring, clock))
    lengths, _ = roads_from(clock + 1, steps, clock)
    return ("times", tuple(lengths[:-1]))


def check_plan(spans, bounds, paper):
    """The first word of a PAPER that holds; BadPaper of any other value."""
    spans = _wanted_spans(spans)
    bounds = _wanted_bounds(spans, bounds)
    paper = plain(paper)
    if starts_with(paper, "times", 2):
        held = are_times(spans, bounds, paper[1])
    elif starts_with(paper, "ring", 2):
        held = _is_ring_below(spans, bounds, paper[1])
    else:
        raise BadPaper("form")
    if not held:
        raise BadPaper(paper[0])
    return paper[0]


def reach(world, place, far):
    """The REACH from place to far."""
    frame = table_of_word(world, "plan").frame
    spot = _wanted_place(frame, place)
    far_spot = _wanted_place(frame, far)
    return frame.lengths[spot][far_spot]


def late_paper(world, job):
    """A PAPER on how late the job can be."""
    frame = table_of_word(world, "plan").frame
    job = _wanted_job(frame, job)
    clock = frame.many
    _, before = roads_from(clock + 1, steps_of(frame.spans, frame.bounds), clock)
    return ("late", _told(road_to(before, job), clock), frame.greatest)


def early_paper(world, job):
    """A PAPER on how early the job can be."""
    frame = table_of_word(world, "plan").frame
    job = _wanted_job(frame, job)
    clock = frame.many
    _, before = roads_from(clock + 1, steps_of(frame.spans, frame.bounds), job)
    return ("early", _told(road_to(before, clock), clock), frame.least)


def check_time(world, job, paper):
    """The time that a PAPER shows which holds; BadPaper of any other value."""
    frame = table_of_word(world, "plan").frame
    job = _wanted_job(frame, job)
    paper = plain(paper)
    if starts_with(paper, "late", 3):
        ends, sign = (None, job), 1
    elif starts_with(paper, "early", 3):
        ends, sign = (job, None), -1
    else:
        raise BadPaper("form")
    _, road, times = paper
    length = _road_length(frame.spans, frame.bounds, road)
    if length is None or (road[0], road[-1]) != ends:
        raise BadPaper("road")
    if not frame.is_solution(times) or times[job] != sign * length:
        raise BadPaper("times")
    return times[job]


def _told(spots, clock):
    """The PLACES, None being the clock."""
    return tuple([None if spot == clock else spot for spot in spots])


def _road_length(spans, bounds, road):
    """The LENGTH of a ROAD; None of what is none."""
    if not isinstance(road, tuple) or not road:
        return None
    if not all([_is_place(place, len(spans)) for place in road]):
        return None
    if len(set(road)) != len(road):
        return None
    return _length_by(spans, bounds, list(zip(road, road[1:])))


def _length_by(spans, bounds, pairs):
    """By how much the STEPS between these pairs of PLACES lead together; None if there is none between some."""
    by_pair = {}
    clock = len(spans)
    for spot, goal, by in steps_of(spans, bounds):
        by_pair[_told((spot, goal), clock)] = by
    if not all([pair in by_pair for pair in pairs]):
        return None
    return sum([by_pair[pair] for pair in pairs])


def _is_ring_below(spans, bounds, ring):
    """Whether it is a RING with a LENGTH below 0."""
    length = _road_length(spans, bounds, ring)
    if length is None:
        return False
    # No STEP leads from a PLACE to itself, so a RING has two PLACES at least.
    back = _length_by(spans, bounds, [(ring[-1], ring[0])])
    return back is not None and length + back < 0


def _is_place(value, many):
    return value is None or is_number(value, 0, many - 1)


def _wanted_place(frame, given):
    """The number of the PLACE, that of the clock behind the jobs."""
    place = plain(given)
    if not _is_place(place, frame.many):
        raise BadPlace(given)
    return frame.many if place is None else place


def _wanted_job(frame, given):
    job = plain(given)
    if not is_number(job, 0, frame.many - 1):
        raise BadJob(given)
    return job


def _wanted_spans(given):
    spans = plain(given)
    if not are_spans(spans):
        raise BadSpans(given)
    return spans


def _wanted_bounds(spans, given):
    bounds = plain(given)
    if not are_bounds(bounds, len(spans)):
        raise BadBounds(given)
    return bounds
