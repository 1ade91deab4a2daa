import itertools
import random
import unittest

from examples import FLOORS, NETS, PAIRS, PLANS, STREETS, small_enough
from helper import Same, Thing, is_plain, junk, raised, square, strange, swapped_pairs, turning_pairs
from turnsall.lowers import join, meet
from turnsall.prices import cheapest_solution, dearest_solution, need_weights, price_of, turn_prices
from turnsall.worlds import all_solutions, least_solution, lower_of, order_of, solution_of, turned, turns
from turnsall.worths import greatest_worth, need_worths

PLAN = ("plan", ((0, 2), (0, 2)), ((0, 1, 0),))
FLOOR = ("floor", square(2, 3))
TOWN = ("streets", 2, 2, (1, 1, 1, 1, 4, 1, 1, 1, 1))
NET = ("net", 4, ((0, 1, 2), (1, 2, 2), (2, 1, 1), (2, 3, 2)))
TURNING = turning_pairs(4)
CALLS = ((need_weights, []), (price_of, [Thing()]), (turn_prices, []), (dearest_solution, []), (cheapest_solution, []))


def things_of(world):
    """All THINGS, ascending."""
    if world[0] == "pairs":
        return list(itertools.product(range(len(world[1])), repeat=2))
    if world[0] == "streets":
        return list(range(len(least_solution(world))))
    if world[0] == "plan":
        return list(range(len(world[1])))
    if world[0] == "net":
        return list(range(world[1]))
    cells = world[1]
    return [(a, b) for a, b in itertools.combinations(cells, 2) if abs(a[0] - b[0]) + abs(a[1] - b[1]) == 1]


def counted(world, thing, solution):
    """How often the AMOUNT of a THING counts."""
    if world[0] == "pairs":
        return solution[thing[0]] == thing[1]
    if world[0] in ("streets", "plan"):
        return solution[thing]
    return thing in solution


def price_tried(world, weights, solution):
    return sum(amount * counted(world, thing, solution) for thing, amount in weights)


def some_weights(world, dice):
    things = things_of(world)
    wide = dice.choice((1, 3, 40))
    chosen = sorted(dice.sample(range(len(things)), dice.randrange(min(len(things), 40) + 1)))
    return tuple((things[spot], dice.randrange(-wide, wide + 1)) for spot in chosen)


def told():
    """WORLDS with WEIGHTS."""
    dice = random.Random(7)
    worlds = PAIRS[:6] + PAIRS[8:14] + PAIRS[-1:] + STREETS[5:14] + STREETS[-4:] + PLANS[:12] + FLOORS[4:] + NETS[8:24] + NETS[-7:]
    for world in worlds:
        if raised(turns, world)[0] is None and small_enough(world):
            yield world, ()
            for _ in range(3):
                yield world, some_weights(world, dice)


class Prices(unittest.TestCase):

    def test_against_trying_out(self):
        ties, seen = 0, set()
        for world, weights in told():
            self.assertIs(need_weights(world, weights), weights)
            found = all_solutions(world)
            prices = {solution: price_tried(world, weights, solution) for solution in found}
            lowers = {solution: set(lower_of(world, solution)) for solution in found}
            for solution in found[:20]:
                self.assertEqual(price_of(world, weights, solution), prices[solution])
            for call, best in ((dearest_solution, max(prices.values())), (cheapest_solution, min(prices.values()))):
                equal = [solution for solution in found if prices[solution] == best]
                within, = [solution for solution in equal if all(lowers[solution] <= lowers[other] for other in equal)]
                self.assertEqual(call(world, weights), within)
                ties += 1 < len(equal) < len(found)
            seen.add(world[0] * (len(set(prices.values())) > 2))
        self.assertGreater(ties, 20)
        self.assertEqual(seen - {""}, {"pairs", "streets", "plan", "floor", "net"})

    def test_facts(self):
        for world, weights in told():
            order, found = order_of(world), all_solutions(world)
            least, prices = turn_prices(world, weights)
            self.assertEqual(least, price_of(world, weights, least_solution(world)))
            self.assertIs(need_worths(order, prices), prices)
            for solution in found[:16]:
                lower = lower_of(world, solution)
                self.assertEqual(price_of(world, weights, solution), least + sum(prices[number] for number in lower))
                for number in range(len(prices)):
                    kind, goal = raised(turned, world, solution, number)
                    if kind is None:
                        self.assertEqual(price_of(world, weights, goal) - price_of(world, weights, solution), prices[number])
            for first, second in itertools.combinations(found[:7], 2):
                lowers = lower_of(world, first), lower_of(world, second)
                both = [solution_of(world, call(order, *lowers)) for call in (meet, join)]
                self.assertEqual(sum(price_of(world, weights, each) for each in (first, second)), sum(price_of(world, weights, each) for each in both))
            dearest = price_of(world, weights, dearest_solution(world, weights))
            self.assertEqual(dearest, least + greatest_worth(order, prices))

    def test_edges(self):
        for world in (TURNING, TOWN, PLAN, FLOOR, NET):
            least = least_solution(world)
            self.assertEqual(turn_prices(world, ()), (0, (0,) * len(turns(world))))
            self.assertEqual((dearest_solution(world, ()), cheapest_solution(world, ()), price_of(world, (), least)), (least, least, 0))
            first = things_of(world)[0]
            for amount in (0, 40, -40):
                self.assertEqual(need_weights(world, ((first, amount),)), ((first, amount),))
        # Times count as they are, below 0, too.
        below = ("plan", ((-5, -2), (3, 4)), ())
        self.assertEqual(turn_prices(below, ((0, 40), (1, -40))), (-320, (40, 40, 40, -40)))
        self.assertEqual((dearest_solution(below, ((0, 40), (1, -40))), cheapest_solution(below, ((0, 40), (1, -40)))), ((-2, 3), (-5, 4)))
        # Place 0, which is in all SIDES, and the last one, which is in none.
        self.assertEqual(turn_prices(NET, ((0, 5), (3, 7))), (5, (0,) * len(turns(NET))))
        # A street counts if it leads to the right, downwards.
        least = least_solution(TOWN)
        around = (0, 1, 4, 5, 6, 8, 9, 11)
        weights = tuple((street, 1 + street) for street in range(12))
        first = sum(amount for street, amount in weights if least[street])
        more = sum(amount * (1 - 2 * least[street]) for street, amount in weights if street in around)
        self.assertEqual(turn_prices(TOWN, weights), (first, (more,)))
        # The greatest PRICES that there can be are WORTHS.
        many = swapped_pairs(20)
        start = least_solution(many)
        told = tuple((pair, -40) for pair in sorted(enumerate(start)))
        self.assertEqual(turn_prices(many, told)[0], -320)
        self.assertEqual(len(turn_prices(many, told)[1]), 20)

    def test_forty_and_forty_one(self):
        world = turning_pairs(7)
        things = list(itertools.product(range(7), repeat=2))
        weights = tuple((thing, 1) for thing in things[:40])
        self.assertIs(need_weights(world, weights), weights)
        self.assertEqual(raised(need_weights, world, tuple((thing, 1) for thing in things[:41]))[0], "BadWeights")

    def test_wrong_weights(self):
        wrong = {
            TURNING: [(((0, 4), 1),), (((4, 0), 1),), (((0,), 1),), (((0, 0, 0), 1),), ((0, 1),), (([0, 0], 1),), (((0, True), 1),), (((-1, 0), 1),)],
            TOWN: [((12, 1),), ((-1, 1),), (((0,), 1),), ((True, 1),)],
            PLAN: [((2, 1),), ((-1, 1),), ((None, 1),), ((False, 1),), ((0, 1), (0, 1)), ((0, 1), (0, 2)), ((1, 1), (0, 1)), ((0, 1), (1, 1), (2, 1))],
            # Of a floor the lesser CELL is ahead.
            FLOOR: [((((0, 1), (0, 0)), 1),), ((((1, 0), (0, 0)), 1),), ((((0, 0), (1, 1)), 1),), ((((0, 2), (0, 3)), 1),), ((((0, 0), (0, 0)), 1),),
                    ((((0, 0), (0, 2)), 1),), ((((1, 0), (2, 0)), 1),), (((0, 0), 1),), ((((0, 0), (0, 1)), 1), (((0, 0), (0, 1)), 2)),
                    ((((0, 1), (0, 2)), 1), (((0, 0), (0, 1)), 1)), ((((0, 0), (False, 1)), 1),), ((((0, 0), (0, 1), (0, 2)), 1),)],
            NET: [((4, 1),), ((-1, 1),), ((1, 1), (0, 1)), ((1, 1), (1, 2))],
        }
        for world, more in wrong.items():
            first = things_of(world)[0]
            more = more + [
                None, [(first, 1)], ([first, 1],), ((first,),), ((first, 1, 1),), ((first, 41),), ((first, -41),), ((first, True),), ((first, None),),
                ((first, "1"),), ((first, (1,)),), ((first, 1), None), ((first, Thing()),), ((Same(), 1),), (first, 1), {first: 1}, 0,
            ]
            for value in junk() + more:
                for call, rest in CALLS:
                    kind, fields = raised(call, world, value, *rest)
                    self.assertEqual(kind, "BadWeights", (world, value))
                    self.assertIs(fields["given"], value)
        for weights, world in ((((((0, 0), (0, 1)), 1),), FLOOR), ((((3, 0), 1),), TURNING), (((11, 1),), TOWN), (((1, 0),), PLAN), (((3, 1),), NET)):
            self.assertIs(need_weights(world, weights), weights)

    def test_wrong_worlds_and_solutions(self):
        for value in junk() + [None, ("plan", ((0, 1), (5, 6)), ((0, 1, 3),)), ("floor", ((0, 0), (0, 1), (1, 0)))]:
            for call, more in CALLS:
                self.assertEqual(raised(call, value, Thing(), *more)[0], "BadWorld", value)
        for call, more in CALLS:
            self.assertEqual(raised(call, ("plan", ((0, 21),), ()), Thing(), *more), ("TooMany", {"most": 20}))
        for value in junk() + [None, (0, 3), (1, 2), [0, 0], (False, 0)]:
            kind, fields = raised(price_of, PLAN, ((0, 1),), value)
            self.assertEqual(kind, "BadSolution", value)
            self.assertIs(fields["given"], value)

    def test_what_is_told_is_plain(self):
        world, weights, solution = strange(PLAN), strange(((0, 3), (1, -2))), strange((1, 0))
        found = [price_of(world, weights, solution), turn_prices(world, weights), dearest_solution(world, weights), cheapest_solution(world, weights)]
        self.assertTrue(all(is_plain(each) for each in found))
        self.assertIs(need_weights(world, weights), weights)


if __name__ == "__main__":
    unittest.main()
