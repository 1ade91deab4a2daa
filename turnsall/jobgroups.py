"""WORLDS of plans: jobs that go together, sure gaps, and jobs that go later."""

from turnsall.errors import BadJobs
from turnsall.kinds import is_lot, plain
from turnsall.tables import table_of_word


def job_groups(world):
    """All GROUPS, ascending."""
    return table_of_word(world, "plan").frame.groups


def still_jobs(world):
    """All jobs that go together with None, ascending."""
    frame = table_of_word(world, "plan").frame
    return tuple([job for job in range(frame.many) if frame.go_together(job, frame.many)])


def sure_gaps(world):
    """All triples (I, J, N), I less than J, such that J is later than I by N in all SOLUTIONS, ascending."""
    frame = table_of_word(world, "plan").frame
    return tuple([
        (job, other, frame.lengths[job][other])
        for job in range(frame.many) for other in range(job + 1, frame.many) if frame.go_together(job, other)
    ])


def can_go_later(world, solution, jobs):
    """Whether what has the times of the jobs 1 greater is a SOLUTION."""
    frame, solution, jobs = _wanted(world, solution, jobs)
    return frame.is_solution(frame.later(solution, jobs))


def gone_later(world, solution, jobs):
    """The SOLUTION that comes of it if the jobs go later; BadJobs of ones that cannot."""
    frame, solution, plain_jobs = _wanted(world, solution, jobs)
    later = frame.later(solution, plain_jobs)
    if not frame.is_solution(later):
        raise BadJobs(jobs)
    return later


def _wanted(world, solution, given):
    """The WORLD, the SOLUTION and the jobs."""
    table = table_of_word(world, "plan")
    solution = table.wanted_solution(solution)
    jobs = plain(given)
    if jobs == () or not is_lot(jobs, table.frame.many):
        raise BadJobs(given)
    return table.frame, solution, jobs
