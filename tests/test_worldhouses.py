import random
import unittest

from examples import FLOORS, NETS, PAIRS, PLANS, STREETS, small_enough
from helper import Same, Thing, fits_tried, is_plain, junk, raised, strange
from housemodel import told_of
from turnsall.house import House, led
from turnsall.worldhouses import go_to, house_of, solutions_left, standing
from turnsall.worlds import all_solutions, can_turn, least_solution, lower_of, order_of, solution_of, turned, turns

PLAN = ("plan", ((0, 2), (0, 2)), ((0, 1, 0),))
# Nine jobs: 512 SOLUTIONS.
WIDE = ("plan", ((0, 1),) * 9, ())


def worlds():
    found = []
    for some in (PAIRS, STREETS, PLANS, FLOORS, NETS):
        good = [world for world in some if raised(turns, world)[0] is None and small_enough(world) and turns(world)]
        found += good[:4] + good[-3:]
    return found


class WorldHouses(unittest.TestCase):

    def test_houses_of_worlds(self):
        for world in worlds():
            house = house_of(world)
            self.assertIsInstance(house, House)
            self.assertEqual((house.order, house.stands, len(house)), (order_of(world), (), 0))
            self.assertEqual(standing(world, house), least_solution(world))
            self.assertEqual(solutions_left(world, house), all_solutions(world))
            dice = random.Random(len(turns(world)))
            found = all_solutions(world)
            for solution in dice.sample(found, min(6, len(found))):
                before = house.stands
                moved = go_to(world, house, solution)
                self.assertEqual(moved, tuple(sorted(set(before) ^ set(lower_of(world, solution)))))
                self.assertEqual((standing(world, house), house.acts[-1]), (solution, ("go", lower_of(world, solution))))
                self.assertEqual(house.can_do(), can_turn(world, solution))
                for number in house.can_do():
                    with house.trial():
                        house.do(number)
                        self.assertEqual(standing(world, house), turned(world, solution, number))

    def test_pinned_ones(self):
        seen = 0
        for seed, world in enumerate(worlds()):
            house = house_of(world)
            dice = random.Random(seed)
            for item in range(house.order[0]):
                raised(dice.choice((house.pin_in, house.pin_out, house.do)), item)
            fitting = fits_tried(house.order, house.pins)
            self.assertEqual(solutions_left(world, house), tuple(solution_of(world, lower) for lower in fitting))
            self.assertEqual(house.left(), len(fitting))
            seen += 1 < len(fitting) < len(all_solutions(world))
            for solution in all_solutions(world)[:9]:
                lower = lower_of(world, solution)
                far = [len(set(lower) ^ set(each)) for each in fitting]
                go_to(world, house, solution)
                self.assertEqual(house.stands, fitting[far.index(min(far))])
        self.assertGreater(seen, 8)

    def test_too_many(self):
        house = house_of(WIDE)
        self.assertEqual(raised(solutions_left, WIDE, house), ("TooMany", {"most": 400}))
        house.pin_in(4)
        self.assertEqual(len(solutions_left(WIDE, house)), 256)
        house.free(4)
        self.assertEqual(raised(solutions_left, WIDE, house), ("TooMany", {"most": 400}))
        # Just 400, and one more.
        rows = ("plan", ((0, 3), (0, 3), (0, 4), (0, 4)), ())
        self.assertEqual(len(solutions_left(rows, house_of(rows))), 400)
        more = ("plan", ((0, 400 - 398), (0, 1), (0, 66)), ())
        self.assertEqual(raised(house_of, more), ("TooMany", {"most": 20}))
        full = led(order_of(PLAN), (("go", ()),) * 300)
        self.assertEqual(raised(go_to, PLAN, full, (0, 0)), ("TooMany", {"most": 300}))
        self.assertEqual(raised(go_to, PLAN, full, (5, 5)), ("BadSolution", {"given": (5, 5)}))
        self.assertEqual((len(full), standing(PLAN, full)), (300, (0, 0)))

    def test_wrong_houses(self):
        closed = House((4, ((0, 1), (0, 2), (0, 3), (1, 3), (2, 3))))
        self.assertEqual(order_of(PLAN), (4, ((0, 1), (0, 2), (1, 3), (2, 3))))
        for value in junk() + [None, order_of(PLAN), PLAN, house_of(WIDE), House((4, ())), closed, House, house_of(PLAN).trial()]:
            for call, more in ((standing, []), (go_to, [Thing()]), (solutions_left, [])):
                kind, fields = raised(call, PLAN, value, *more)
                self.assertEqual(kind, "BadHouse", value)
                self.assertIs(fields["given"], value)
        # One of another WORLD with the same ORDER does.
        other = ("net", 6, ((2, 1, 1), (3, 1, 1), (4, 2, 1), (4, 3, 1)))
        self.assertEqual(order_of(other), order_of(PLAN))
        self.assertEqual(standing(PLAN, house_of(other)), (0, 0))
        self.assertEqual(standing(PLAN, House(strange(order_of(PLAN)))), (0, 0))

    def test_wrong_arguments(self):
        house = house_of(PLAN)
        for value in junk() + [None, ("plan", ((0, 1), (5, 6)), ((0, 1, 3),)), ("floor", ((0, 0), (0, 1), (1, 0)))]:
            self.assertEqual(raised(house_of, value)[0], "BadWorld", value)
            for call, more in ((standing, []), (go_to, [Thing()]), (solutions_left, [])):
                self.assertEqual(raised(call, value, Thing(), *more)[0], "BadWorld", value)
        for value in junk() + [None, (0, 3), (1, 2), [0, 0], (False, 0), Same()]:
            kind, fields = raised(go_to, PLAN, house, value)
            self.assertEqual(kind, "BadSolution", value)
            self.assertIs(fields["given"], value)
        self.assertEqual((len(house), house.stands), (0, ()))

    def test_what_is_told_is_plain(self):
        house = house_of(strange(PLAN))
        found = [standing(strange(PLAN), house), go_to(PLAN, house, strange((1, 0))), solutions_left(PLAN, house)]
        self.assertTrue(is_plain(tuple(found)) and is_plain(tuple(told_of(house).values())))


if __name__ == "__main__":
    unittest.main()
