import itertools
import unittest

from examples import FLOORS, NETS, ORACLES, PAIRS, PLANS, STREETS, small_enough, worlds
from helper import (
    Number, Row, Same, Thing, Word, is_plain, junk, net_oracle, pairs_oracle, raised, some_order, square,
    strange, streets_oracle, swapped_pairs, tried_out, turning_pairs, times_tried, heights_tried,
)
from turnsall.lowers import all_lowers, join, meet
from turnsall.worlds import (
    all_solutions, can_turn, greatest_solution, is_solution, least_solution, lower_of, need_world, order_of,
    solution_of, turned, turns,
)


class Worlds(unittest.TestCase):

    def test_against_trying_out(self):
        seen = {word: 0 for word in ORACLES}
        for world in worlds():
            if world[0] == "plan" and raised(turns, world)[0] == "TooMany":
                continue
            if not small_enough(world):
                continue
            tried = tried_out(*ORACLES[world[0]](world))
            seen[world[0]] += len(tried["turns"]) > 1
            self.assertIs(need_world(world), world)
            self.assertEqual(least_solution(world), tried["least"])
            self.assertEqual(greatest_solution(world), tried["greatest"])
            self.assertEqual(turns(world), tried["turns"])
            self.assertEqual(order_of(world), tried["order"])
            in_turn = sorted(tried["lowers"], key=tried["lowers"].get)
            self.assertEqual(sorted(tried["lowers"].values()), list(all_lowers(tried["order"])))
            self.assertEqual(all_solutions(world), tuple(in_turn))
            for solution in in_turn[:30] + in_turn[-6:]:
                self.look_at(world, tried, solution)
        self.assertGreater(min(seen.values()), 4, seen)

    def look_at(self, world, tried, solution):
        lower = tried["lowers"][solution]
        self.assertIs(is_solution(world, solution), True)
        self.assertEqual(lower_of(world, solution), lower)
        self.assertEqual(solution_of(world, lower), solution)
        ready = {tried["turns"].index(turn): goal for turn, goal in tried["steps"][solution].items()}
        self.assertEqual(can_turn(world, solution), tuple(sorted(ready)))
        for number in range(len(tried["turns"])):
            if number in ready:
                self.assertEqual(turned(world, solution, number), ready[number])
            else:
                self.assertEqual(raised(turned, world, solution, number), ("BadTurn", {"given": number}))

    def test_is_solution(self):
        for world in PAIRS[:4] + STREETS[:3] + PLANS[:4] + FLOORS[-6:-3] + NETS[-5:]:
            right = set(all_solutions(world))
            for value in junk() + [None, (), 0] + [list(solution) for solution in right]:
                self.assertIs(is_solution(world, value), False, value)
            for solution in right:
                self.assertIs(is_solution(world, solution[:-1]), solution[:-1] in right)
                self.assertIs(is_solution(world, solution + (solution[-1],)), False)
                self.assertIs(is_solution(world, solution[::-1]), solution[::-1] in right)
        for world in PAIRS:
            right = set(pairs_oracle(world)[0])
            for row in itertools.permutations(range(len(world[1]))):
                self.assertIs(is_solution(world, row), row in right)
        world = STREETS[1]
        right = set(streets_oracle(world)[0])
        for ways in itertools.product((0, 1), repeat=7):
            self.assertIs(is_solution(world, ways), ways in right)
        world = ("plan", ((0, 2), (-1, 1), (0, 1)), ((0, 1, -1), (1, 2, 1)))
        right = set(times_tried(*world[1:]))
        for times in itertools.product(range(-2, 4), repeat=3):
            self.assertIs(is_solution(world, times), times in right)
        for world in NETS[-6:]:
            right = set(net_oracle(world)[0])
            for size in range(world[1] + 1):
                for side in itertools.combinations(range(world[1]), size):
                    self.assertIs(is_solution(world, side), side in right)

    def test_meets_and_joins_by_words(self):
        """Each part tells which SOLUTIONS have the MEET and the JOIN."""
        for world in PAIRS[2:8] + STREETS[:9] + PLANS[:8] + FLOORS[-4:-1] + NETS[:8]:
            if not small_enough(world):
                continue
            order, found = order_of(world), all_solutions(world)[:12]
            for first, second in itertools.product(found, repeat=2):
                lowers = lower_of(world, first), lower_of(world, second)
                low = solution_of(world, meet(order, *lowers))
                high = solution_of(world, join(order, *lowers))
                self.assertEqual((low, high), self.both(world, first, second, found), world)

    def both(self, world, first, second, found):
        if world[0] == "pairs":
            ranks = [[row.index(other) for other in range(len(row))] for row in world[1]]
            pairs = [sorted(both, key=lambda other: ranks[one][other]) for one, both in enumerate(zip(first, second))]
            return tuple(pair[0] for pair in pairs), tuple(pair[1] for pair in pairs)
        if world[0] == "streets":
            least = least_solution(world)
            heights = {ways: heights_tried(world, least, ways) for ways in streets_oracle(world)[0]}
            by_heights = {heights[ways]: ways for ways in heights}
            both = list(zip(heights[first], heights[second]))
            return by_heights[tuple(map(min, both))], by_heights[tuple(map(max, both))]
        if world[0] == "plan":
            both = list(zip(first, second))
            return tuple(map(min, both)), tuple(map(max, both))
        if world[0] == "net":
            return tuple(sorted(set(first) & set(second))), tuple(sorted(set(first) | set(second)))
        # Floors: TIMES of each block by the TURNS.
        sides = [{turns(world)[number] for number in lower_of(world, each)} for each in (first, second)]
        by_turns = {frozenset(turns(world)[n] for n in lower_of(world, each)): each for each in all_solutions(world)}
        return by_turns[frozenset(sides[0] & sides[1])], by_turns[frozenset(sides[0] | sides[1])]

    def test_numbers_of_turns(self):
        self.assertEqual(turns(turning_pairs(3)), (((0, 0), (1, 1), (2, 2)), ((0, 1), (1, 2), (2, 0))))
        self.assertEqual(turns(("net", 4, ())), ((1,), (2,)))
        self.assertEqual(turns(("plan", ((0, 2), (0, 2)), ((0, 1, 0),))), (((0,), 0), ((0,), 1), ((1,), 0), ((1,), 1)))
        self.assertEqual(turns(("streets", 2, 2, (1, 1, 1, 1, 4, 1, 1, 1, 1))), (((0, 1, 2, 3), 0),))
        self.assertEqual(turns(("floor", square(2, 2))), ((0, 0, 0),))

    def test_a_world_without_turns(self):
        for world in (
            ("pairs", ((0,),), ((0,),)), ("plan", ((7, 7),), ()), ("floor", ((0, 0), (0, 1))), ("net", 2, ()),
            ("streets", 1, 1, (2, 1, 1, 0)),
        ):
            self.assertEqual(turns(world), ())
            self.assertEqual(order_of(world), (0, ()))
            least = least_solution(world)
            self.assertEqual(greatest_solution(world), least)
            self.assertEqual(all_solutions(world), (least,))
            self.assertEqual((lower_of(world, least), solution_of(world, ()), can_turn(world, least)), ((), least, ()))
            self.assertEqual(raised(turned, world, least, 0), ("BadTurn", {"given": 0}))

    def test_twenty_turns_and_more(self):
        net = ("net", 22, ())
        for world in (swapped_pairs(20), ("plan", ((0, 20),), ()), ("plan", ((-10, 0), (3, 13)), ()), net):
            self.assertEqual(len(turns(world)), 20)
            self.assertEqual(order_of(world)[0], 20)
            self.assertEqual(lower_of(world, greatest_solution(world)), tuple(range(20)))
        due = ("TooMany", {"most": 20})
        for world in (
            swapped_pairs(21), swapped_pairs(28), ("plan", ((0, 21),), ()), ("plan", ((-1000, 1000),) * 12, ()),
            ("plan", ((0, 20), (0, 1)), ()), ("plan", ((0, 7), (0, 7), (0, 7)), ()),
        ):
            for call in (need_world, least_solution, greatest_solution, turns, order_of, all_solutions):
                self.assertEqual(raised(call, world), due)
            for call in (is_solution, lower_of, solution_of, can_turn):
                self.assertEqual(raised(call, world, None), due)
            self.assertEqual(raised(turned, world, None, None), due)
        # Jobs that go together have one TURN together.
        self.assertEqual(len(turns(("plan", ((0, 20), (0, 20)), ((0, 1, 0), (1, 0, 0))))), 20)

    def test_more_than_400_solutions(self):
        due = ("TooMany", {"most": 400})
        self.assertEqual(raised(all_solutions, ("net", 22, ())), due)
        self.assertEqual(raised(all_solutions, ("net", 11, ())), due)
        self.assertEqual(len(all_solutions(("net", 10, ()))), 256)
        self.assertEqual(len(all_solutions(("plan", ((0, 3), (0, 3), (0, 4), (0, 4)), ()))), 400)
        self.assertEqual(raised(all_solutions, ("plan", ((0, 6), (0, 6), (0, 8)), ())), due)

    def test_twelve_of_each(self):
        world = turning_pairs(12)
        self.assertEqual(len(turns(world)), 11)
        self.assertEqual(order_of(world), (11, tuple((item, item + 1) for item in range(10))))
        self.assertEqual(all_solutions(world)[3], tuple((one + 3) % 12 for one in range(12)))
        row = tuple(range(12))
        self.assertEqual(all_solutions(("pairs", (row,) * 12, (row,) * 12)), (row,))

    def test_the_greatest_worlds(self):
        pairs = list(itertools.permutations(range(22), 2))
        pipes = tuple((start, goal, 100) for start, goal in pairs)
        self.assertEqual(least_solution(("net", 22, pipes[:200])), tuple(range(21)))
        self.assertEqual(raised(need_world, ("net", 22, pipes[:201])), ("BadWorld", {"part": "pipes"}))
        bounds = tuple((job, far, 1000) for job, far in itertools.permutations(range(12), 2))
        self.assertEqual(len(turns(("plan", ((-1000, -999),) * 12, bounds[:60]))), 12)
        self.assertEqual(raised(need_world, ("plan", ((0, 1),) * 12, bounds[:61])), ("BadWorld", {"part": "bounds"}))

    def test_orders_of_jobs(self):
        for seed in range(6):
            order = some_order(seed, 7, 25)
            world = ("plan", ((0, 1),) * 7, tuple((a, b, 0) for a, b in order[1]))
            self.assertEqual({tuple(j for j in range(7) if s[j]) for s in all_solutions(world)}, set(all_lowers(order)))

    def test_what_is_told_is_plain(self):
        for world in (PAIRS[2], STREETS[-1], PLANS[0], ("floor", square(2, 3)), ("net", 4, ((0, 1, 2),))):
            odd = strange(world)
            self.assertIsInstance(odd, Row)
            self.assertIs(need_world(odd), odd)
            solution = strange(least_solution(world))
            told = [call(odd) for call in (least_solution, greatest_solution, turns, order_of, all_solutions)]
            told += [lower_of(odd, solution), solution_of(odd, Row((Number(0),))), can_turn(odd, solution)]
            told += [turned(odd, solution, Number(0)), turned(odd, strange(told[0]), Number(0))]
            self.assertTrue(all(is_plain(each) for each in told))
            self.assertEqual(told[0], least_solution(world))
            self.assertIs(is_solution(odd, solution), True)
        self.assertEqual(Word("net"), "net")


def row_world(word, *rest):
    return (word,) + rest


TOWN = (1, 1, 1, 1)
ONE = ((0, 1), (1, 0))
BAD_WORLDS = [
    (value, "form") for value in junk() + [
        None, 0, "net", (), ["net", 2, ()], ("nets", 2, ()), ("Pairs", ONE, ONE), (None, 2, ()), (Same(), 2, ()),
        (("net",), 2, ()), (b"net", 2, ()), ("floor",), ("floor", ((0, 0), (0, 1)), 0), ("net",), ("net", 2), ("net", 2, (), 0),
        (True, 2, ()), ("", 2, ()),
    ]
] + [
    (value, "pairs") for value in (
        ("pairs",), ("pairs", ONE), ("pairs", ONE, ONE, ONE), ("pairs", list(ONE), ONE), ("pairs", ONE, list(ONE)),
        ("pairs", None, ONE), ("pairs", ONE, "ab"), ("pairs", 2, 2), ("pairs", {}, ONE), ("pairs", Thing(), ONE),
    )
] + [
    (value, "many") for value in (
        ("pairs", (), ()), ("pairs", ONE, ((0,),)), ("pairs", (), ONE), ("pairs", (None,), ONE),
        ("pairs", (tuple(range(13)),) * 13, (tuple(range(13)),) * 13), ("pairs", ((),) * 13, ()),
    )
] + [
    (("pairs", (row, (0, 1)), (None, ONE)), "ones") for row in (
        None, True, 0, "01", [0, 1], (0,), (0, 0), (0, 1, 2), (0, 2), (-1, 0), (False, True), (0, True), (0, None),
        (0, "1"), Thing(), (0, Same()), {0, 1}, (), ((0,), 1),
    )
] + [
    (("pairs", ONE, ((0, 1), row)), "others") for row in (None, [1, 0], (1, 1), (1, 2), (1, 0, 2), (True, 0), Thing(), (1, Same()))
] + [
    (value, "streets") for value in (
        ("streets",), ("streets", 1, 1), ("streets", 1, 1, TOWN, 0), ("streets", 0, 1, TOWN), ("streets", 4, 1, TOWN),
        ("streets", 1, 4, TOWN), ("streets", 1, 0, TOWN), ("streets", True, 1, TOWN), ("streets", 1, None, TOWN),
        ("streets", "1", 1, TOWN), ("streets", 1, 1, list(TOWN)), ("streets", 1, 1, None), ("streets", 1, 1, "1111"),
        ("streets", Same(), 1, TOWN), ("streets", 1, Thing(), TOWN), ("streets", (1,), (1,), TOWN),
    )
] + [
    (("streets", 1, 1, outs), "outs") for outs in (
        (), (1, 1, 1), (1,) * 5, (1, 1, 1, 5), (1, 1, 1, -1), (True, 1, 1, 1), (None, 1, 1, 1), (1, 1, 1, "1"), (1, 1, 1, Same()),
    )
] + [
    (value, "plan") for value in (
        ("plan",), ("plan", ((0, 1),)), ("plan", ((0, 1),), (), ()), ("plan", [(0, 1)], ()), ("plan", ((0, 1),), []),
        ("plan", None, ()), ("plan", ((0, 1),), None), ("plan", "ab", ()), ("plan", ((0, 1),), 7), ("plan", {}, {}),
    )
] + [
    (("plan", spans, (None,)), "spans") for spans in (
        (), ((0, 1),) * 13, ((1, 0),), ((0, 1001),), ((-1001, 0),), ((0,),), ((0, 1, 2),), ([0, 1],), (None,), (5,),
        ((False, 1),), ((0, True),), ((None, 0),), ((0, "1"),), ((0, 1), None), ((Same(), 1),), ((0, Thing()),), ("ab",),
    )
] + [
    (("plan", ((0, 1), (0, 1)), bounds), "bounds") for bounds in (
        (None,), ((0, 1),), ((0, 1, 2, 3),), ([0, 1, 2],), ((0, 0, 1),), ((0, 2, 1),), ((-1, 0, 1),), ((2, 0, 1),),
        ((0, 1, 1001),), ((0, 1, -1001),), ((0, 1, None),), ((0, 1, True),), ((False, 1, 0),), ((0, True, 0),),
        ((0, 1, 0), (0, 1, 1)), ((0, 1, 0), (0, 1, 0)), ((1, 0, 0), (0, 1, 0)), ((0, 1, 0), None), ((0, 1, Same()),),
    )
] + [
    (("floor", field), "field") for field in (
        None, 0, "field", [(0, 0), (0, 1)], (), ((0, 0),), ((0, 0), (0, 0)), ((0, 1), (0, 0)), ((0, 0), (1, 1)),
        ((0, 0), (0, 2)), ((0, 5), (0, 6)), ((-1, 0), (0, 0)), ((0, 0), (0, True)), ((0, 0), [0, 1]), ((0, 0), (0, 1, 2)),
        ((0, 0), (0,)), ((0, 0), None), ((0, 0), Thing()), ((0, 0), (0, Same())), square(3, 6)[:17], square(5, 5),
        # Around a hole, and around one that is let out by a corner alone.
        tuple(cell for cell in square(3, 3) if cell != (1, 1)),
        tuple(cell for cell in square(4, 4) if cell not in ((0, 0), (1, 1))),
        tuple(cell for cell in square(4, 4) if cell not in ((2, 2), (3, 3))),
    )
] + [
    (("net", places, None), "places") for places in (None, True, 0, 1, 23, -2, "2", (2,), [2], 10 ** 30, Thing(), Same())
] + [
    (("net", 3, pipes), "pipes") for pipes in (
        None, True, 0, "", [], {}, [(0, 1, 1)], (None,), ((0, 1),), ((0, 1, 1, 1),), ([0, 1, 1],), ((0, 0, 1),),
        ((0, 3, 1),), ((3, 0, 1),), ((-1, 0, 1),), ((0, 1, 101),), ((0, 1, -1),), ((0, 1, True),), ((False, 1, 1),),
        ((0, True, 1),), ((0, 1, None),), ((0, 1, 1), (0, 1, 2)), ((0, 1, 1), (0, 1, 1)), ((0, 2, 1), (0, 1, 1)),
        ((0, 1, 1), Thing()), ((0, 1, Same()),), ("011",),
    )
] + [
    (("streets", 1, 1, (0, 0, 4, 0)), "none"), (("streets", 1, 1, (0, 0, 0, 0)), "none"),
    (("streets", 1, 1, (4, 4, 4, 4)), "none"), (("streets", 2, 1, (0, 0, 2, 2, 2, 1)), "none"),
    (("plan", ((0, 1), (5, 6)), ((0, 1, 3),)), "none"), (("plan", ((0, 9), (0, 9)), ((0, 1, -1), (1, 0, 0))), "none"),
    (("plan", ((-1000, 1000),) * 12, ((0, 1, -1), (1, 0, 0))), "none"),
    (("floor", ((0, 0), (0, 1), (0, 2))), "none"), (("floor", ((0, 0), (0, 1), (0, 2), (1, 1))), "none"),
    (("floor", ((1, 1), (2, 0), (2, 1), (2, 2), (2, 3), (3, 2))), "none"),
]


class WrongWorlds(unittest.TestCase):

    def test_need_world(self):
        for world, part in BAD_WORLDS:
            self.assertEqual(raised(need_world, world), ("BadWorld", {"part": part}), world)

    def test_all_calls(self):
        for world, part in BAD_WORLDS[::3]:
            due = ("BadWorld", {"part": part})
            for call in (least_solution, greatest_solution, turns, order_of, all_solutions):
                self.assertEqual(raised(call, world), due)
            for call in (is_solution, lower_of, solution_of, can_turn):
                self.assertEqual(raised(call, world, Thing()), due)
            self.assertEqual(raised(turned, world, None, None), due)

    def test_wrong_solutions(self):
        for world, near in (
            (PAIRS[2], (0, 2, 1)), (STREETS[-3], (1, 1, 1, 1)), (PLANS[0], (0, 1)), (("net", 3, ((0, 1, 1),)), (1,)),
            (("floor", square(2, 2)), (((0, 0), (0, 1)),)),
        ):
            for value in junk() + [None, (), near, list(least_solution(world)), (least_solution(world),)]:
                for call, more in ((lower_of, []), (can_turn, []), (turned, [None])):
                    kind, fields = raised(call, world, value, *more)
                    self.assertEqual(kind, "BadSolution", value)
                    self.assertIs(fields["given"], value)

    def test_wrong_lowers_and_turns(self):
        for world in (PLANS[0], ("net", 6, ()), turning_pairs(4), ("floor", square(3, 4))):
            many, least = len(turns(world)), least_solution(world)
            for value in junk() + [None, [0], (many,), (0, 0), (1, 0), (-1,), (True,), ("0",)]:
                kind, fields = raised(solution_of, world, value)
                self.assertEqual(kind, "BadLower", value)
                self.assertIs(fields["given"], value)
            for value in junk() + [None, many, (0,), "0", [0]]:
                kind, fields = raised(turned, world, least, value)
                self.assertEqual(kind, "BadTurn", value)
                self.assertIs(fields["given"], value)
        self.assertEqual(raised(solution_of, turning_pairs(4), (1,)), ("BadLower", {"given": (1,)}))
        self.assertEqual(raised(turned, turning_pairs(4), (0, 1, 2, 3), 1), ("BadTurn", {"given": 1}))


if __name__ == "__main__":
    unittest.main()
