import itertools
import unittest

from helper import Same, Thing, is_plain, junk, raised, roads_tried, some_plan, strange, swapped_pairs, times_tried
from turnsall.jobgroups import can_go_later, gone_later, job_groups, still_jobs, sure_gaps
from turnsall.likeness import leads
from turnsall.planabout import idle_bounds, plan_about, plan_shifted, times_about, without_bound
from turnsall.sums import about
from turnsall.worlds import all_solutions, can_turn, greatest_solution, least_solution, need_world, order_of, turned, turns

TOGETHER = ("plan", ((0, 3), (1, 4), (-5, 9)), ((0, 1, 1), (1, 0, -1), (1, 2, 2), (2, 1, -2)))
STILL = ("plan", ((2, 2), (0, 5), (0, 5)), ((0, 1, 1), (1, 0, -1), (1, 2, -3), (2, 1, 3)))
FREE = ("plan", ((0, 2), (1, 1), (-3, -1)), ())
PAIR = ("plan", ((0, 3), (0, 3)), ((0, 1, 1), (1, 0, 2)))
WORLDS = [TOGETHER, STILL, FREE, PAIR, ("plan", ((4, 4),), ()), ("plan", ((0, 5),), ())] + [
    world for world in (some_plan(seed, 1 + seed % 4, 4) for seed in range(90))
    if times_tried(*world[1:]) and raised(need_world, world)[0] is None
]
ELSE = [
    (("net", 2, ()), "word"), (swapped_pairs(28), "word"), (("floor", ((0, 0), (0, 1))), "word"), (("streets", 1, 1, (1,) * 4), "word"),
    (("plan", ((0, 1), (5, 6)), ((0, 1, 3),)), "none"), (("plan", ((0, 1),), (0,)), "bounds"), (("plan", (), ()), "spans"),
    (("plan", (), []), "plan"), (("plans", (), ()), "form"), (None, "form"), (Thing(), "form"),
]
CALLS = (
    (job_groups, 0), (still_jobs, 0), (sure_gaps, 0), (can_go_later, 2), (gone_later, 2), (plan_about, 0), (times_about, 1),
    (plan_shifted, 1), (idle_bounds, 0), (without_bound, 1),
)


def held(world):
    """For each two jobs the set of how much later the second is, and the jobs that have one time alone."""
    right = times_tried(*world[1:])
    jobs = range(len(world[1]))
    gaps = {(i, j): {times[j] - times[i] for times in right} for i in jobs for j in jobs}
    return right, gaps, [job for job in jobs if len({times[job] for times in right}) == 1]


class Groups(unittest.TestCase):

    def test_groups_still_jobs_and_gaps(self):
        for world in WORLDS:
            right, gaps, still = held(world)
            jobs = range(len(world[1]))
            self.assertEqual(still_jobs(world), tuple(still))
            groups = {tuple(j for j in jobs if len(gaps[i, j]) == 1) for i in jobs if i not in still}
            self.assertEqual(job_groups(world), tuple(sorted(groups)))
            told = [(i, j, gaps[i, j].pop()) for i in jobs for j in jobs if i < j and len(gaps[i, j]) == 1]
            self.assertEqual(sure_gaps(world), tuple(told))
            self.assertEqual(sorted(job for group in job_groups(world) for job in group) + list(still_jobs(world)),
                             [job for job in jobs if job not in still] + still)
            least = least_solution(world)
            for times in right:
                for group in job_groups(world):
                    self.assertEqual(len({times[job] - least[job] for job in group}), 1)

    def test_edges(self):
        self.assertEqual(job_groups(TOGETHER), ((0, 1, 2),))
        self.assertEqual((still_jobs(TOGETHER), sure_gaps(TOGETHER)), ((), ((0, 1, 1), (0, 2, 3), (1, 2, 2))))
        self.assertEqual(job_groups(STILL), ())
        self.assertEqual((still_jobs(STILL), sure_gaps(STILL)), ((0, 1, 2), ((0, 1, 1), (0, 2, -2), (1, 2, -3))))
        self.assertEqual((job_groups(FREE), still_jobs(FREE), sure_gaps(FREE)), (((0,), (2,)), (1,), ()))
        self.assertEqual(sure_gaps(("plan", ((7, 7), (5, 5)), ())), ((0, 1, -2),))

    def test_going_later(self):
        for world in WORLDS[:45]:
            right = times_tried(*world[1:])
            jobs = range(len(world[1]))
            lots = [lot for size in range(1, len(jobs) + 1) for lot in itertools.combinations(jobs, size)]
            for times in right[:12] + right[-12:]:
                for lot in lots:
                    later = tuple(time + (job in lot) for job, time in enumerate(times))
                    self.assertIs(can_go_later(world, times, lot), later in right)
                    due = (None, later) if later in right else ("BadJobs", {"given": lot})
                    self.assertEqual(raised(gone_later, world, times, lot), due)
                    if later in right:
                        # Some GROUP all of whose jobs are among them can go later, too.
                        self.assertTrue(any(set(group) <= set(lot) and can_go_later(world, times, group) for group in job_groups(world)))

    def test_turns_are_groups_going_later(self):
        for world in WORLDS[:45]:
            told, least = turns(world), least_solution(world)
            greatest = greatest_solution(world)
            due = [(group, k) for group in job_groups(world) for k in range(greatest[group[0]] - least[group[0]])]
            self.assertEqual(sorted(told), due)
            for times in all_solutions(world)[:15]:
                can = [n for n, (group, k) in enumerate(told) if can_go_later(world, times, group) and times[group[0]] - least[group[0]] == k]
                self.assertEqual(can_turn(world, times), tuple(can))
                for number in can:
                    self.assertEqual(turned(world, times, number), gone_later(world, times, told[number][0]))

    def test_wrong_jobs(self):
        for value in junk() + [None, (), (2,), (0, 2), (1, 0), (0, 0), [0], (False,), (0, True), ("0",), ((0,),), (0, None), 0]:
            for call in (can_go_later, gone_later):
                kind, fields = raised(call, PAIR, (0, 0), value)
                self.assertEqual(kind, "BadJobs", value)
                self.assertIs(fields["given"], value)
        for value in junk() + [None, (), (0,), (0, 0, 0), (0, 4), (3, 0), (0, True), [0, 0], (0, None), (0, (0,))]:
            for call, more in ((can_go_later, [Thing()]), (gone_later, [()]), (times_about, [])):
                kind, fields = raised(call, PAIR, value, *more)
                self.assertEqual(kind, "BadSolution", value)
                self.assertIs(fields["given"], value)

    def test_wrong_worlds(self):
        for call, many in CALLS:
            for world, part in ELSE:
                self.assertEqual(raised(call, world, *[Thing()] * many), ("BadWorld", {"part": part}))
            self.assertEqual(raised(call, ("plan", ((0, 21),), ()), *[Thing()] * many), ("TooMany", {"most": 20}))


class About(unittest.TestCase):

    def test_turned_about(self):
        alike = 0
        for world in WORLDS:
            told = plan_about(world)
            self.assertIs(need_world(told), told)
            self.assertEqual(plan_about(told), world)
            right = times_tried(*world[1:])
            self.assertEqual(sorted(tuple(-time for time in times) for times in right), sorted(times_tried(*told[1:])))
            for times in right[:6] + right[-6:]:
                self.assertEqual(times_about(world, times), tuple(-time for time in times))
                self.assertEqual(times_about(told, times_about(world, times)), times)
            if len(turns(world)) < 7:
                self.assertIsNotNone(leads(order_of(told), about(order_of(world))))
                alike += 1
        self.assertGreater(alike, 20)
        self.assertEqual(plan_about(PAIR), ("plan", ((-3, 0), (-3, 0)), ((0, 1, 2), (1, 0, 1))))
        self.assertEqual(plan_about(FREE), ("plan", ((-2, 0), (-1, -1), (1, 3)), ()))

    def test_shifted(self):
        for world in WORLDS[:40]:
            for by in (-990, -7, 0, 1, 10, 990):
                told = plan_shifted(world, by)
                self.assertEqual(told, ("plan", tuple((low + by, high + by) for low, high in world[1]), world[2]))
                self.assertEqual(order_of(told), order_of(world))
                self.assertEqual(all_solutions(told), tuple(tuple(time + by for time in times) for times in all_solutions(world)))

    def test_ends_of_shifts(self):
        self.assertEqual(plan_shifted(PAIR, 997)[1], ((997, 1000), (997, 1000)))
        self.assertEqual(plan_shifted(PAIR, -1000)[1], ((-1000, -997), (-1000, -997)))
        self.assertEqual(plan_shifted(("plan", ((-1000, -995),), ()), 1995)[1], ((995, 1000),))
        self.assertEqual(plan_shifted(("plan", ((995, 1000),), ()), -1995)[1], ((-1000, -995),))
        for value in junk() + [None, 998, -1001, 10 ** 40, (0,), "0", [0], 1.5]:
            if not (type(value) is int and value == -1):
                kind, fields = raised(plan_shifted, PAIR, value)
                self.assertEqual(kind, "BadShift", value)
                self.assertIs(fields["given"], value)
        self.assertEqual(raised(plan_shifted, ("plan", ((-1000, -995), (998, 1000)), ()), 0)[0], None)
        for by in (1, -1):
            self.assertEqual(raised(plan_shifted, ("plan", ((-1000, -995), (998, 1000)), ()), by), ("BadShift", {"given": by}))

    def test_idle_bounds(self):
        idle = busy = 0
        for world in WORLDS:
            _, spans, bounds = world
            right = times_tried(spans, bounds)
            told = idle_bounds(world)
            for spot, (job, other, most) in enumerate(bounds):
                rest = bounds[:spot] + bounds[spot + 1:]
                self.assertEqual(spot in told, times_tried(spans, rest) == right)
                self.assertEqual(without_bound(world, spot), ("plan", spans, rest))
                # By a road without its step.
                lengths = roads_tried(spans, rest, job, other).values()
                self.assertEqual(spot in told, any(length <= most for length in lengths))
            self.assertEqual(told, tuple(sorted(told)))
            idle += len(told)
            busy += len(bounds) - len(told)
        self.assertGreater(min(idle, busy), 20)
        self.assertEqual(idle_bounds(FREE), ())
        # Each of two that tell the same is idle by itself.
        self.assertEqual(idle_bounds(("plan", ((0, 0), (0, 9), (0, 0)), ((0, 1, 1), (2, 1, 1)))), (0, 1))

    def test_without_bound(self):
        tight = ("plan", ((0, 30), (0, 0)), ((1, 0, 5),))
        self.assertEqual(len(turns(tight)), 5)
        self.assertEqual(without_bound(tight, 0), ("plan", ((0, 30), (0, 0)), ()))
        self.assertEqual(raised(need_world, without_bound(tight, 0)), ("TooMany", {"most": 20}))
        for value in junk() + [None, 2, "0", (0,), [0], False, True]:
            kind, fields = raised(without_bound, PAIR, value)
            self.assertEqual(kind, "BadBound", value)
            self.assertIs(fields["given"], value)
        self.assertEqual(raised(without_bound, FREE, 0), ("BadBound", {"given": 0}))

    def test_what_is_told_is_plain(self):
        world = strange(PAIR)
        told = [job_groups(world), still_jobs(world), sure_gaps(world), can_go_later(world, strange((0, 0)), strange((0,)))]
        told += [gone_later(world, strange((0, 0)), strange((0, 1))), plan_about(world), times_about(world, strange((1, 0)))]
        told += [plan_shifted(world, strange(5)), idle_bounds(world), without_bound(world, strange(1))]
        self.assertTrue(all(is_plain(each) for each in told))
        self.assertEqual(raised(can_go_later, PAIR, (Same(), 0), (0,))[0], "BadSolution")


if __name__ == "__main__":
    unittest.main()
