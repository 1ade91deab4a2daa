import itertools
import unittest

from examples import FLOORS, NETS, PAIRS, PLANS, STREETS
from helper import Same, Thing, ahead_pairs, is_plain, junk, lowers, raised, small_orders, strange
from turnsall.asothers import as_net, as_plan
from turnsall.aspairs import as_pairs, edges_of
from turnsall.leading import alike_paper, are_turned_alike, check_alike, led_over
from turnsall.lowers import join, meet
from turnsall.shortways import far_from
from turnsall.worlds import all_solutions, can_turn, lower_of, order_of, solution_of, turned, turns

PLAN = ("plan", ((0, 2), (0, 2)), ((0, 1, 0),))
SEVEN, EIGHT = ("plan", ((0, 7),), ()), ("plan", ((0, 8),), ())
# Four items each, as many with 0, 1 and 2 ahead of them, and yet not alike.
FIRST = (6, ((0, 2), (0, 3), (1, 4), (1, 5)))
SECOND = (6, ((0, 2), (0, 3), (0, 4), (1, 5)))
THIRD = (6, ((0, 2), (1, 3), (2, 4), (2, 5)))
FOURTH = (6, ((0, 2), (1, 3), (2, 4), (3, 5)))


def bad(word):
    return "BadPaper", {"part": word}


def leads_tried(order, other):
    """All LEADS, ascending, by trying out."""
    if order[0] != other[0]:
        return []
    ahead, goal = ahead_pairs(order), ahead_pairs(other)
    return [row for row in itertools.permutations(range(order[0])) if {(row[a], row[b]) for a, b in ahead} == goal]


def numbers_ahead(order):
    ahead = ahead_pairs(order)
    return [sum(1 for a, b in ahead if b == item) for item in range(order[0])]


def few():
    """WORLDS of at most five TURNS, some of each word."""
    found = []
    for worlds in (PAIRS, STREETS, PLANS, FLOORS, NETS):
        small = [world for world in worlds if raised(turns, world)[0] is None and 1 < len(turns(world)) < 6]
        found += small[:6]
    return found + [PAIRS[0], ("plan", ((0, 1),) * 4, ()), as_plan((4, ((0, 1), (2, 3)))), as_net((4, ((0, 1), (2, 3))))]


class Leading(unittest.TestCase):

    def test_against_trying_out(self):
        seen = {"alike": 0, "many": 0, "unlike": 0, "apart": 0}
        worlds = few()
        for world, other in itertools.product(worlds, repeat=2):
            order, goal = order_of(world), order_of(other)
            found = leads_tried(order, goal)
            self.assertIs(are_turned_alike(world, other), bool(found))
            paper = alike_paper(world, other)
            seen[paper[0]] += 1
            self.assertEqual(check_alike(world, other, paper), paper[0])
            self.assertIs(paper[0] == "alike", bool(found))
            if not found:
                self.assertEqual(raised(led_over, world, other, all_solutions(world)[0]), ("NotAlike", {"given": (world, other)}))
                continue
            for solution in all_solutions(world):
                lower = tuple(sorted(found[0][number] for number in lower_of(world, solution)))
                self.assertEqual(led_over(world, other, solution), solution_of(other, lower))
        self.assertGreater(min(seen["alike"], seen["many"], seen["unlike"]), 20)

    def test_apart(self):
        # As many items with K ahead for each K, and no LEADS.
        alike = [(a, b) for a, b in itertools.combinations([FIRST, SECOND, THIRD, FOURTH], 2) if sorted(numbers_ahead(a)) == sorted(numbers_ahead(b))]
        self.assertEqual(alike, [(FIRST, SECOND), (THIRD, FOURTH)])
        for order, other in alike:
            world, goal = as_plan(order), as_net(other)
            self.assertEqual(leads_tried(order, other), [])
            self.assertEqual(alike_paper(world, goal), ("apart",))
            self.assertEqual(check_alike(world, goal, ("apart",)), "apart")
            for paper in (("many",), ("unlike", 0), ("unlike", 1), ("unlike", 2), ("alike", tuple(range(6)))):
                self.assertEqual(raised(check_alike, world, goal, paper), bad(paper[0]))

    def test_facts(self):
        for order in [order for order in small_orders() if 0 < order[0] < 7]:
            plan = as_plan(order)
            built = [as_net(order)] + ([as_pairs(order)] if len(edges_of(order)) < 13 else [])
            for other in built:
                self.assertIs(are_turned_alike(plan, other), True)
                self.assertIs(are_turned_alike(other, plan), True)
                found = all_solutions(plan)[:24]
                led = [led_over(plan, other, solution) for solution in found]
                self.assertEqual(len(set(led)), len(found))
                lows, goals = order_of(plan), order_of(other)
                for solution, goal in zip(found, led):
                    ready = {led_over(plan, other, turned(plan, solution, number)) for number in can_turn(plan, solution)}
                    self.assertEqual(ready, {turned(other, goal, number) for number in can_turn(other, goal)})
                for (one, one_led), (two, two_led) in itertools.combinations(list(zip(found, led))[:6], 2):
                    here = lower_of(plan, one), lower_of(plan, two)
                    there = lower_of(other, one_led), lower_of(other, two_led)
                    for call in (meet, join):
                        self.assertEqual(led_over(plan, other, solution_of(plan, call(lows, *here))), solution_of(other, call(goals, *there)))
                    self.assertEqual(far_from(lows, *here), far_from(goals, *there))
            for world in built:
                self.assertIs(are_turned_alike(world, as_plan(order_of(world))), True)
                self.assertEqual(len(all_solutions(world)), len(lowers(order)))

    def test_any_paper_that_holds(self):
        loose = ("plan", ((0, 1),) * 3, ())
        row = ("plan", ((0, 3),), ())
        for leads in itertools.permutations(range(3)):
            self.assertEqual(check_alike(loose, as_net((3, ())), ("alike", leads)), "alike")
            due = (None, "alike") if leads == (0, 1, 2) else bad("alike")
            self.assertEqual(raised(check_alike, row, as_net((3, ((0, 1), (1, 2)))), ("alike", leads)), due)
            self.assertEqual(raised(check_alike, row, loose, ("alike", leads)), bad("alike"))
        for order, other in itertools.combinations_with_replacement([order for order in small_orders() if 0 < order[0] < 6], 2):
            world, goal = as_plan(order), as_net(other)
            found = leads_tried(order, other)
            for leads in itertools.permutations(range(order[0])):
                due = (None, "alike") if leads in found else bad("alike")
                self.assertEqual(raised(check_alike, world, goal, ("alike", leads)), due)
            first, second = numbers_ahead(order), numbers_ahead(other)
            for number in range(7):
                due = (None, "unlike") if first.count(number) != second.count(number) else bad("unlike")
                self.assertEqual(raised(check_alike, world, goal, ("unlike", number)), due)
            apart = not found and sorted(first) == sorted(second)
            self.assertEqual(raised(check_alike, world, goal, ("apart",)), (None, "apart") if apart else bad("apart"))
            many = (None, "many") if order[0] != other[0] else bad("many")
            self.assertEqual(raised(check_alike, world, goal, ("many",)), many)

    def test_worlds_without_turns(self):
        still = ("plan", ((5, 5),), ())
        self.assertEqual(alike_paper(still, PAIRS[0]), ("alike", ()))
        self.assertEqual(led_over(still, PAIRS[0], (5,)), (0,))
        self.assertEqual(alike_paper(still, PLAN), ("many",))
        self.assertEqual(check_alike(still, PLAN, ("unlike", 0)), "unlike")

    def test_seven_and_eight_turns(self):
        many = ("TooMany", {"most": 7})
        self.assertEqual(led_over(SEVEN, as_plan((7, tuple((i, i + 1) for i in range(6)))), (3,)), (1, 1, 1, 0, 0, 0, 0))
        self.assertIs(are_turned_alike(SEVEN, ("plan", ((0, 1),) * 7, ())), False)
        for pair in ((SEVEN, EIGHT), (EIGHT, SEVEN), (EIGHT, EIGHT), (EIGHT, PLAN)):
            self.assertEqual(raised(are_turned_alike, *pair), many)
            self.assertEqual(raised(alike_paper, *pair), many)
            self.assertEqual(raised(led_over, *pair, (0, 0) if pair[0] is PLAN else (0,)), many)
            # Ahead of NotAlike, BadPaper, behind BadSolution.
            for paper in (("many",), None, ("form",), ("alike", ()), Thing()):
                self.assertEqual(raised(check_alike, *pair, paper), many)
            for value in junk() + [None, (9,), (-1,)]:
                kind, fields = raised(led_over, *pair, value)
                self.assertEqual(kind, "BadSolution")
                self.assertIs(fields["given"], value)

    def test_bent_papers(self):
        other = as_net(order_of(PLAN))
        self.assertEqual(check_alike(PLAN, other, ("alike", (0, 1, 2, 3))), "alike")
        for paper in junk() + [None, (), ("alike",), ("alike", (0, 1, 2, 3), 0), ["many"], ("many", 0), ("unlike",), ("unlike", 0, 0),
                               ("apart", ()), ("like", ()), (None,), (Same(),), (("many",),), "many"]:
            self.assertEqual(raised(check_alike, PLAN, other, paper), bad("form"), paper)
        for value in junk() + [None, (), (0, 1, 2), (0, 1, 2, 4), (0, 1, 2, 2), [0, 1, 2, 3], (0, 1, 2, 3, 4), (False, 1, 2, 3), (3, 2, 1, 0), (0, 2, 3, 1)]:
            self.assertEqual(raised(check_alike, PLAN, other, ("alike", value)), bad("alike"), value)
        row = ("plan", ((0, 4),), ())
        self.assertEqual([check_alike(PLAN, row, ("unlike", number)) for number in (1, 2)], ["unlike"] * 2)
        for value in junk() + [None, 0, 3, 4, -1, "1", (1,), [1], 10 ** 40]:
            self.assertEqual(raised(check_alike, PLAN, row, ("unlike", value)), bad("unlike"), value)

    def test_wrong_worlds(self):
        calls = ((are_turned_alike, []), (led_over, [Thing()]), (alike_paper, []), (check_alike, [Thing()]))
        for value in junk() + [None, ("plan", ((0, 1), (5, 6)), ((0, 1, 3),)), ("floor", ((0, 0), (0, 1), (1, 0)))]:
            for call, more in calls:
                self.assertEqual(raised(call, value, Thing(), *more)[0], "BadWorld", value)
                self.assertEqual(raised(call, PLAN, value, *more)[0], "BadWorld", value)
        great = ("plan", ((0, 21),), ())
        for call, more in calls:
            for pair in ((great, Thing()), (PLAN, great), (EIGHT, great)):
                self.assertEqual(raised(call, *pair, *more), ("TooMany", {"most": 20}))

    def test_what_is_told_is_plain(self):
        world, other = strange(PLAN), strange(as_net(order_of(PLAN)))
        self.assertTrue(is_plain(alike_paper(world, other)) and is_plain(led_over(world, other, strange((1, 0)))))
        self.assertEqual(check_alike(world, other, strange(alike_paper(world, other))), "alike")


if __name__ == "__main__":
    unittest.main()
