import itertools
import unittest

from helper import (
    Same, Thing, is_plain, junk, plan_oracle, plan_steps, raised, roads_tried, some_plan, strange, swapped_pairs,
    times_tried, tried_out,
)
from turnsall.plans import check_plan, check_time, early_paper, late_paper, plan_paper, reach
from turnsall.worlds import (
    all_solutions, greatest_solution, is_solution, least_solution, need_world, order_of, turns,
)

ALL = [some_plan(seed, 1 + seed % 4, 4) for seed in range(120)]
WORLDS = [world for world in ALL if times_tried(*world[1:]) and raised(need_world, world)[0] is None]
NONE = [world for world in ALL if not times_tried(*world[1:])]
PAIR = ("plan", ((0, 3), (0, 3)), ((0, 1, 1), (1, 0, 2)))
ELSE = [
    (("net", 2, ()), "word"), (swapped_pairs(28), "word"), (("floor", ((0, 0), (0, 1))), "word"), (("streets", 1, 1, (1,) * 4), "word"),
    (("streets", 1, 1, (0, 0, 4, 0)), "none"), (("plan", ((0, 1), (5, 6)), ((0, 1, 3),)), "none"),
    (("plan", ((0, 1),), (0,)), "bounds"), (("plan", (), ()), "spans"), (("plan", (), []), "plan"), (("plans", (), ()), "form"),
]
BAD_SPANS = [
    None, 0, "ab", [(0, 1)], (), ((0, 1),) * 13, ((1, 0),), ((0, 1001),), ((-1001, 0),), ((0, 1, 2),), ((0,),), ([0, 1],),
    ((False, 1),), ((0, True),), ((0, None),), ((0, Thing()),), ((Same(), 1),), ("ab",), (None,),
]
BAD_BOUNDS = [
    None, 0, "abc", [], [(0, 1, 2)], {}, ((0, 1),), ((0, 1, 2, 3),), ([0, 1, 2],), ((0, 0, 0),), ((0, 2, 0),), ((-1, 0, 0),),
    ((0, 1, 1001),), ((0, 1, -1001),), ((0, 1, None),), ((False, 1, 0),), ((0, True, 0),), ((0, 1, False),), (None,),
    ((0, 1, 0), (0, 1, 1)), ((1, 0, 0), (0, 1, 0)), ((0, 1, Same()),), ((0, Thing(), 0),), (0, 1, 2),
]


def ring_length(spans, bounds, ring):
    steps = plan_steps(spans, bounds)
    return sum(steps[step] for step in zip(ring, ring[1:] + ring[:1]))


def rings_tried(spans, bounds):
    """All RINGS and their LENGTHS."""
    steps = plan_steps(spans, bounds)
    return {
        road: ring_length(spans, bounds, road) for road in roads_tried(spans, bounds)
        if len(road) > 1 and (road[-1], road[0]) in steps
    }


class PlanPapers(unittest.TestCase):

    def test_papers(self):
        self.assertGreater(min(len(WORLDS), len(NONE)), 20)
        for _, spans, bounds in ALL:
            paper = plan_paper(spans, bounds)
            self.assertEqual(paper[0], "times" if times_tried(spans, bounds) else "ring")
            self.assertEqual(check_plan(spans, bounds, paper), paper[0])

    def test_papers_of_large_plans(self):
        spans = ((-1000, 1000),) * 12
        loop = tuple(sorted((job, (job + 1) % 12, -1 if job == 5 else 0) for job in range(12)))
        paper = plan_paper(spans, loop)
        self.assertEqual((paper[0], sorted(paper[1])), ("ring", list(range(12))))
        self.assertEqual(check_plan(spans, loop, paper), "ring")
        many = tuple((i, j, (7 * i + 5 * j) % 40 - 3) for i, j in list(itertools.permutations(range(12), 2))[:60])
        self.assertEqual(check_plan(spans, many, plan_paper(spans, many)), plan_paper(spans, many)[0])
        far = tuple((job, job + 1, -1000) for job in range(11))
        self.assertEqual(check_plan(spans, far, plan_paper(spans, far)), "ring")
        self.assertEqual(check_plan(spans, far[:2], plan_paper(spans, far[:2])), "times")

    def test_any_paper_that_holds(self):
        for _, spans, bounds in [world for world in ALL if len(world[1]) < 4][:50]:
            right = set(times_tried(spans, bounds))
            for times in itertools.product(range(-4, 9, 2), repeat=len(spans)):
                due = (None, "times") if times in right else ("BadPaper", {"part": "times"})
                self.assertEqual(raised(check_plan, spans, bounds, ("times", times)), due)
            rings = rings_tried(spans, bounds)
            places = [None] + list(range(len(spans)))
            for size in range(1, len(places) + 1):
                for row in itertools.permutations(places, size):
                    below = row in rings and rings[row] < 0
                    due = (None, "ring") if below else ("BadPaper", {"part": "ring"})
                    self.assertEqual(raised(check_plan, spans, bounds, ("ring", row)), due)
            self.assertEqual(bool(right), min(rings.values()) >= 0)

    def test_bent_papers(self):
        _, spans, bounds = ("plan", ((0, 9), (0, 9)), ((0, 1, -1), (1, 0, 0)))
        for paper in junk() + [
            None, ("times",), ("ring",), ("ring", (0, 1), 0), ["ring", (0, 1)], ("rings", (0, 1)), (None, (0, 1)), (Same(), (0, 1)),
            (("ring",), (0, 1)), "ring", (b"ring", (0, 1)),
        ]:
            self.assertEqual(raised(check_plan, spans, bounds, paper), ("BadPaper", {"part": "form"}), paper)
        self.assertEqual(check_plan(spans, bounds, ("ring", (0, 1))), "ring")
        self.assertEqual(check_plan(spans, bounds, ("ring", (1, 0))), "ring")
        for ring in junk() + [
            None, [0, 1], (0,), (), (0, 1, 0), (0, 1, 0, 1), (0, None), (None, 0, 1), (0, 2), (0, True), (0, -1), (None,), (None, None),
        ]:
            self.assertEqual(raised(check_plan, spans, bounds, ("ring", ring)), ("BadPaper", {"part": "ring"}), ring)
        for times in junk() + [None, (0,), (0, 0, 0), [0, 0], (0, True), (0, None), (10, 9), (0, 0)]:
            self.assertEqual(raised(check_plan, spans, (), ("times", (0, 0))), (None, "times"))
            self.assertEqual(raised(check_plan, spans, bounds, ("times", times)), ("BadPaper", {"part": "times"}), times)

    def test_wrong_spans_and_bounds(self):
        for value in junk() + BAD_SPANS:
            for call, more in ((plan_paper, [None]), (check_plan, [None, None])):
                kind, fields = raised(call, value, *more)
                self.assertEqual(kind, "BadSpans", value)
                self.assertIs(fields["given"], value)
        spans = ((0, 1), (0, 1))
        large = tuple((i, j, 0) for i, j in itertools.permutations(range(12), 2))
        for value in junk() + BAD_BOUNDS:
            for call, more in ((plan_paper, []), (check_plan, [None])):
                kind, fields = raised(call, spans, value, *more)
                self.assertEqual(kind, "BadBounds", value)
                self.assertIs(fields["given"], value)
        self.assertEqual(plan_paper(((0, 1),) * 12, large[:60])[0], "times")
        self.assertEqual(raised(plan_paper, ((0, 1),) * 12, large[:61]), ("BadBounds", {"given": large[:61]}))


class Reaches(unittest.TestCase):

    def test_reach(self):
        for world in WORLDS[:50]:
            _, spans, bounds = world
            places = [None] + list(range(len(spans)))
            roads = roads_tried(spans, bounds)
            right = [dict(enumerate(times)) | {None: 0} for times in all_solutions_of(world)]
            for place, far in itertools.product(places, repeat=2):
                least = min(length for road, length in roads.items() if (road[0], road[-1]) == (place, far))
                self.assertEqual(reach(world, place, far), least)
                self.assertEqual(max(times[far] - times[place] for times in right), least)

    def test_least_and_greatest(self):
        for world in WORLDS:
            jobs = range(len(world[1]))
            self.assertEqual(greatest_solution(world), tuple(reach(world, None, job) for job in jobs))
            self.assertEqual(least_solution(world), tuple(-reach(world, job, None) for job in jobs))

    def test_which_turns_are_ahead(self):
        for world in WORLDS:
            told, least = turns(world), least_solution(world)
            ahead = set()
            for (a, (group, k)), (b, (other, more)) in itertools.permutations(enumerate(told), 2):
                gap = reach(world, group[0], other[0]) + least[group[0]] - least[other[0]]
                if more - k >= gap:
                    ahead.add((a, b))
            tried = tried_out(*plan_oracle(world))
            self.assertEqual(order_of(world), tried["order"])
            direct = {(a, b) for a, b in ahead if not any((a, c) in ahead and (c, b) in ahead for c in range(len(told)))}
            self.assertEqual(order_of(world), (len(told), tuple(sorted(direct))))

    def test_time_papers(self):
        for world in WORLDS:
            for job in range(len(world[1])):
                for call, word, times in (
                    (late_paper, "late", greatest_solution(world)), (early_paper, "early", least_solution(world)),
                ):
                    paper = call(world, job)
                    self.assertEqual((paper[0], len(paper)), (word, 3))
                    self.assertEqual(check_time(world, job, paper), times[job])

    def test_any_time_paper_that_holds(self):
        held = 0
        for world in [world for world in WORLDS if len(world[1]) == 3][:12]:
            right = all_solutions_of(world)
            for job in range(3):
                for word, ends, sign in (("late", (None, job), 1), ("early", (job, None), -1)):
                    for road, length in roads_tried(*world[1:]).items():
                        for times in right[:9] + right[-9:]:
                            part = "road" if (road[0], road[-1]) != ends else "times" if times[job] != sign * length else None
                            due = ("BadPaper", {"part": part}) if part else (None, times[job])
                            self.assertEqual(raised(check_time, world, job, (word, road, times)), due)
                            held += part is None
        self.assertGreater(held, 100)

    def test_bent_time_papers(self):
        self.assertEqual(late_paper(PAIR, 1), ("late", (None, 1), (3, 3)))
        for paper in junk() + [
            None, ("late", (None, 1)), ("late", (None, 1), (3, 3), 0), ["late", (None, 1), (3, 3)], ("Late", (None, 1), (3, 3)),
            (None, (None, 1), (3, 3)), (Same(), (None, 1), (3, 3)), (("late",), 1, 2), ("times", (None, 1), (3, 3)),
        ]:
            self.assertEqual(raised(check_time, PAIR, 1, paper), ("BadPaper", {"part": "form"}), paper)
        for word in ("late", "early"):
            for road in junk() + [
                None, (), (1,), (None,), (0, 1), (None, 0), (0, None), (None, 1, None), (None, 1, 1), [None, 1], (None, True),
                (None, 2), (False, 1), (None, 0, 0, 1),
            ]:
                due = ("BadPaper", {"part": "road"})
                self.assertEqual(raised(check_time, PAIR, 1, (word, road, (3, 3))), due, road)
                self.assertEqual(raised(check_time, PAIR, 1, (word, road, None)), due, road)
        for times in junk() + [None, (3,), (3, 3, 3), [3, 3], (1, 3), (3, 2), (4, 3), (3, "3"), (True, 3)]:
            due = ("BadPaper", {"part": "times"})
            self.assertEqual(raised(check_time, PAIR, 1, ("late", (None, 1), times)), due, times)
        self.assertEqual(check_time(PAIR, 1, ("late", (None, 1), (2, 3))), 3)
        self.assertEqual(check_time(PAIR, 1, ("early", (1, None), (2, 0))), 0)
        self.assertEqual(raised(check_time, PAIR, 1, ("late", (None, 0, 1), (3, 3))), ("BadPaper", {"part": "times"}))

    def test_wrong_arguments(self):
        for world, part in ELSE:
            for call, many in ((reach, 2), (late_paper, 1), (early_paper, 1), (check_time, 2)):
                self.assertEqual(raised(call, world, *[Thing()] * many), ("BadWorld", {"part": part}))
        for call, many in ((reach, 2), (late_paper, 1), (early_paper, 1), (check_time, 2)):
            self.assertEqual(raised(call, ("plan", ((0, 21),), ()), *[0] * many), ("TooMany", {"most": 20}))
        for value in junk() + [2, "0", (0,), (None,), [None]]:
            for args in ((value, Thing()), (None, value), (1, value)):
                kind, fields = raised(reach, PAIR, *args)
                self.assertEqual(kind, "BadPlace", value)
                self.assertIs(fields["given"], value)
        for value in junk() + [None, 2, "0", (0,)]:
            for call, more in ((late_paper, []), (early_paper, []), (check_time, [None])):
                kind, fields = raised(call, PAIR, value, *more)
                self.assertEqual(kind, "BadJob", value)
                self.assertIs(fields["given"], value)

    def test_what_is_told_is_plain(self):
        world = strange(PAIR)
        told = [plan_paper(*world[1:]), late_paper(world, strange(1)), early_paper(world, strange(1)), reach(world, strange(0), None)]
        told += [check_time(world, strange(1), strange(told[1])), check_plan(*world[1:], strange(told[0]))]
        told += [plan_paper(strange(((0, 9), (0, 9))), strange(((0, 1, -1), (1, 0, 0))))]
        self.assertTrue(all(is_plain(each) for each in told))


def all_solutions_of(world):
    """All SOLUTIONS, as many as there are."""
    found = times_tried(*world[1:])
    assert is_solution(world, found[0]) and len(found) == len(all_solutions(world))
    return found


if __name__ == "__main__":
    unittest.main()
