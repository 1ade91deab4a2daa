import unittest

from examples import FLOORS, NETS, PAIRS, PLANS, STREETS, small_enough
from helper import Same, Thing, junk, lowers, raised, small_orders, some_order
from turnsall.counts import how_many
from turnsall.numbers import lower_at, number_of, solution_at, solution_count, solution_number
from turnsall.worlds import all_solutions, solution_of

ORDER = (4, ((0, 1), (1, 2)))
BAD_LOWERS = [None, True, 0, "0", [0], (True,), (None,), (0, 0), (1, 0), (4,), (-1,), ((0,),), Thing(), (Same(),), {0}, (1,), (0, 2)]
PLAN = ("plan", ((0, 2), (0, 2)), ((0, 1, 0),))
WORLDS = PAIRS[:8] + PAIRS[-3:] + STREETS[:9] + STREETS[-4:] + PLANS[:14] + FLOORS[:6] + FLOORS[-4:] + NETS[:20] + NETS[-7:]


class Numbers(unittest.TestCase):

    def test_lowers(self):
        for order in small_orders() + [some_order(seed, 8, 20) for seed in range(5)]:
            right = lowers(order)
            for number, lower in enumerate(right):
                self.assertEqual(number_of(order, lower), number)
                self.assertEqual(lower_at(order, number), lower)
            for number in (len(right), -1, len(right) + 1, -len(right)):
                self.assertEqual(raised(lower_at, order, number), ("BadNumber", {"given": number}))

    def test_great_orders(self):
        free = (20, ())
        # () comes first, then all with 0, of these the one that has 0 alone.
        self.assertEqual([lower_at(free, number) for number in (0, 1, 2)], [(), (0,), (0, 1)])
        self.assertEqual((lower_at(free, 2 ** 20 - 1), lower_at(free, 2 ** 19), lower_at(free, 2 ** 19 + 1)), ((19,), (0, 19), (1,)))
        self.assertEqual(lower_at(free, 20), tuple(range(20)))
        for order in (free, some_order(1, 20, 10), some_order(2, 20, 25), (20, tuple((item, item + 10) for item in range(10)))):
            many = how_many(order, ((), ()))
            step = many // 40 + 1
            found = []
            for number in list(range(0, many, step)) + [many - 1]:
                found.append(lower_at(order, number))
                self.assertEqual(number_of(order, found[-1]), number)
            self.assertEqual(found, sorted(found))
            self.assertEqual(raised(lower_at, order, many), ("BadNumber", {"given": many}))

    def test_edges(self):
        for order in ((0, ()), (1, ())):
            self.assertEqual((lower_at(order, 0), number_of(order, ())), ((), 0))
        self.assertEqual(raised(lower_at, (0, ()), 1), ("BadNumber", {"given": 1}))
        self.assertEqual((lower_at(ORDER, 7), number_of(ORDER, (3,))), ((3,), 7))
        self.assertEqual([lower_at(ORDER, number) for number in range(8)],
                         [(), (0,), (0, 1), (0, 1, 2), (0, 1, 2, 3), (0, 1, 3), (0, 3), (3,)])

    def test_solutions(self):
        seen = {}
        for world in WORLDS:
            if raised(solution_count, world)[0] is None and small_enough(world):
                found = all_solutions(world)
                seen.setdefault(world[0], []).append(len(found))
                self.assertEqual(solution_count(world), len(found))
                spots = range(0, len(found), max(1, len(found) // 20))
                for number in list(spots) + [len(found) - 1]:
                    self.assertEqual(solution_at(world, number), found[number])
                    self.assertEqual(solution_number(world, found[number]), number)
                for number in (len(found), -1):
                    self.assertEqual(raised(solution_at, world, number), ("BadNumber", {"given": number}))
        self.assertEqual(sorted(seen), ["floor", "net", "pairs", "plan", "streets"])
        self.assertTrue(all(max(many) > 4 for many in seen.values()), seen)

    def test_more_solutions_than_can_be_told(self):
        world = ("plan", ((0, 1),) * 12, ())
        self.assertEqual(raised(all_solutions, world)[0], "TooMany")
        self.assertEqual(solution_count(world), 2 ** 12)
        self.assertEqual(solution_at(world, 2 ** 11), solution_of(world, (0, 11)))
        self.assertEqual(solution_number(world, (1,) * 12), 12)
        self.assertEqual(solution_at(world, 2 ** 12 - 1), (0,) * 11 + (1,))

    def test_wrong_arguments(self):
        for value in junk() + [None, (21, ()), (2, ((1, 0),)), [2, ()]]:
            for call in (number_of, lower_at):
                self.assertEqual(raised(call, value, Thing())[0], "BadOrder", value)
        for value in junk() + BAD_LOWERS:
            kind, fields = raised(number_of, ORDER, value)
            self.assertEqual(kind, "BadLower", value)
            self.assertIs(fields["given"], value)
        for value in junk() + [None, True, "1", (1,), [1], 8, -1, 10 ** 50]:
            for call, thing in ((lower_at, ORDER), (solution_at, PLAN)):
                kind, fields = raised(call, thing, value)
                self.assertEqual(kind, "BadNumber", value)
                self.assertIs(fields["given"], value)
        for value in junk() + [None, ("plan", ((0, 1), (5, 6)), ((0, 1, 3),)), ("floor", ((0, 0), (0, 1), (1, 0)))]:
            for call, more in ((solution_number, [Thing()]), (solution_at, [Thing()]), (solution_count, [])):
                self.assertEqual(raised(call, value, *more)[0], "BadWorld", value)
        for value in junk() + [None, (0, 3), (1, 2), [0, 0], (False, 0)]:
            kind, fields = raised(solution_number, PLAN, value)
            self.assertEqual(kind, "BadSolution", value)
            self.assertIs(fields["given"], value)


if __name__ == "__main__":
    unittest.main()
