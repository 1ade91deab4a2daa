"""WORLDS of plans."""

from turnsall.errors import BadWorld
from turnsall.frames import WorldFrame
from turnsall.kinds import is_ascending, is_number, is_tuple_of
from turnsall.roads import all_lengths, ring_below

MOST_JOBS = 12
MOST_BOUNDS = 60
FARTHEST = 1000


class PlanWorld(WorldFrame):
    """A WORLD of a plan: its LEAST SOLUTION, its GROUPS, and what can be done at each SOLUTION.

    The clock has the number behind those of the jobs.
    """

    def __init__(self, spans, bounds):
        self.word = "plan"
        self.many = len(spans)
        self.spans = spans
        self.bounds = bounds
        self.lengths = all_lengths(self.many + 1, steps_of(spans, bounds))
        self.least = tuple([0 - self.lengths[job][self.many] for job in range(self.many)])
        self.greatest = tuple(self.lengths[self.many][:-1])
        self.groups = self._gone_together()

    def _gone_together(self):
        """All GROUPS, ascending."""
        found = []
        for spot in range(self.many):
            group = tuple([other for other in range(self.many + 1) if self.go_together(spot, other)])
            if group[0] == spot and group[-1] != self.many:
                found.append(group)
        return tuple(found)

    def go_together(self, spot, other):
        """Whether one is later than the other one by the same number in all SOLUTIONS."""
        return self.lengths[spot][other] + self.lengths[other][spot] == 0

    def is_solution(self, value):
        """Whether what plain() told is a SOLUTION."""
        return are_times(self.spans, self.bounds, value)

    def is_thing(self, value):
        """Whether what plain() told is a job."""
        return is_number(value, 0, self.many - 1)

    def counts_at(self, solution):
        """Each job as often as its time tells."""
        return {job: time for job, time in enumerate(solution)}

    def later(self, solution, jobs):
        """What has the times of the jobs 1 greater."""
        return tuple([time + 1 if job in jobs else time for job, time in enumerate(solution)])

    def _lateness(self, solution, group):
        return solution[group[0]] - self.least[group[0]]

    def turns_at(self, solution):
        """All TURNS that can be done at the SOLUTION."""
        return [
            (group, self._lateness(solution, group)) for group in self.groups
            if self.is_solution(self.later(solution, group))
        ]

    def has_turn(self, solution, turn):
        """Whether the TURN can be done at the SOLUTION."""
        return turn in self.turns_at(solution)

    def after(self, solution, turn):
        """The SOLUTION to which a TURN that can be done leads."""
        return self.later(solution, turn[0])

    def has_done(self, solution, turn):
        """Whether the TURN is one of those that lead to the SOLUTION."""
        group, number = turn
        return self._lateness(solution, group) > number


def are_spans(value):
    """Whether what plain() told are SPANS."""
    if not isinstance(value, tuple) or not is_number(len(value), 1, MOST_JOBS):
        return False
    return all([_is_span(span) for span in value])


def _is_span(value):
    if not is_tuple_of(value, 2):
        return False
    return is_number(value[1], 0 - FARTHEST, FARTHEST) and is_number(value[0], 0 - FARTHEST, value[1])


def are_bounds(value, many):
    """Whether what plain() told are BOUNDS of so many jobs."""
    if not isinstance(value, tuple) or len(value) > MOST_BOUNDS:
        return False
    if not all([_is_bound(bound, many) for bound in value]):
        return False
    return is_ascending([bound[:2] for bound in value])


def _is_bound(value, many):
    if not is_tuple_of(value, 3):
        return False
    spot, other, most = value
    if not is_number(spot, 0, many - 1) or not is_number(other, 0, many - 1) or spot == other:
        return False
    return is_number(most, 0 - FARTHEST, FARTHEST)


def are_times(spans, bounds, value):
    """Whether what plain() told is a SOLUTION by SPANS and BOUNDS."""
    if not is_tuple_of(value, len(spans)):
        return False
    if not all([is_number(time, low, high) for time, (low, high) in zip(value, spans)]):
        return False
    return all([value[other] - value[spot] <= most for spot, other, most in bounds])


def steps_of(spans, bounds):
    """All STEPS, with the number behind those of the jobs for the clock."""
    clock = len(spans)
    steps = list(bounds)
    for job, (low, high) in enumerate(spans):
        steps.append((clock, job, high))
        steps.append((job, clock, 0 - low))
    return steps


def plan_world(world):
    """The WORLD of a plan that plain() told; BadWorld."""
    if not is_tuple_of(world, 3) or not isinstance(world[1], tuple) or not isinstance(world[2], tuple):
        raise BadWorld("plan")
    spans, bounds = world[1:]
    if not are_spans(spans):
        raise BadWorld("spans")
    if not are_bounds(bounds, len(spans)):
        raise BadWorld("bounds")
    if ring_below(len(spans) + 1, steps_of(spans, bounds)) is not None:
        raise BadWorld("none")
    return PlanWorld(spans, bounds)
