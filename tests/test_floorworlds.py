"""WORLDS of floors beside what is found by trying out all LAYINGS, and that none takes long."""

import sys
import unittest

from helper import floor_oracle, is_whole, layings_tried, raised, some_fields, square, tried_out
from turnsall.floors import all_layings, check_laying, is_laying, laying_paper, need_field
from turnsall.lowers import all_lowers
from turnsall.tiles import times_of
from turnsall.worlds import (
    all_solutions, can_turn, greatest_solution, is_solution, least_solution, lower_of, need_world, order_of, solution_of,
    turned, turns,
)

BOXES = [square(rows, columns) for rows, columns in ((2, 2), (2, 4), (4, 2), (3, 4), (2, 6), (4, 3), (4, 4), (3, 3), (1, 6))]


def less_two(rows, columns, *corners):
    return tuple(cell for cell in square(rows, columns) if cell not in corners)


CORNERED = [
    less_two(4, 4, (0, 0), (0, 3)), less_two(4, 4, (0, 3), (3, 3)), less_two(4, 4, (0, 0), (3, 3)), less_two(3, 4, (0, 0), (0, 3)),
    less_two(3, 6, (0, 0), (0, 5)), less_two(3, 6, (0, 5), (2, 5)), less_two(6, 3, (0, 0), (5, 0)), less_two(3, 5, (0, 0), (2, 4)),
]
GROWN = some_fields(50, (8, 10, 12, 14, 16, 16))
FIELDS = BOXES + CORNERED + GROWN


def worlds():
    """WORLDS of the FIELDS that have LAYINGS, each with what is found by trying out."""
    for field in FIELDS:
        if layings_tried(field):
            world = ("floor", field)
            yield world, tried_out(*floor_oracle(world))


def calls_of(call, *args):
    """How many calls of functions a call leads to, which is the same on every machine."""
    many = [0]

    def count(_, event, __):
        many[0] += event in ("call", "c_call")

    sys.setprofile(count)
    try:
        call(*args)
    finally:
        sys.setprofile(None)
    return many[0]


class FloorWorlds(unittest.TestCase):

    def test_turns_order_and_solutions(self):
        large = 0
        for world, tried in worlds():
            self.assertIs(need_world(world), world)
            self.assertEqual(turns(world), tried["turns"])
            self.assertEqual(order_of(world), tried["order"])
            self.assertEqual((least_solution(world), greatest_solution(world)), (tried["least"], tried["greatest"]))
            self.assertEqual(all_solutions(world), tuple(sorted(tried["lowers"], key=tried["lowers"].get)))
            self.assertEqual(sorted(all_solutions(world)), layings_tried(world[1]))
            self.assertEqual(tuple(sorted(tried["lowers"].values())), all_lowers(tried["order"]))
            large += len(tried["turns"]) > 5
        self.assertGreater(large, 9)

    def test_at_each_solution(self):
        for world, tried in worlds():
            for solution, lower in tried["lowers"].items():
                self.assertIs(is_solution(world, solution), True)
                self.assertIs(is_solution(world, solution[::-1]), len(solution) == 1)
                self.assertEqual(lower_of(world, solution), lower)
                self.assertEqual(solution_of(world, lower), solution)
                ready = {tried["turns"].index(turn): goal for turn, goal in tried["steps"][solution].items()}
                self.assertEqual(can_turn(world, solution), tuple(sorted(ready)))
                for number in range(len(tried["turns"])):
                    due = (None, ready[number]) if number in ready else ("BadTurn", {"given": number})
                    self.assertEqual(raised(turned, world, solution, number), due)
                done = [tried["turns"][number][:2] for number in lower]
                for block in set(done):
                    self.assertEqual(times_of(world, solution, block), done.count(block))

    def test_fields_and_layings(self):
        for field in FIELDS:
            right = layings_tried(field)
            self.assertEqual(all_layings(field), tuple(right))
            self.assertEqual(check_laying(field, laying_paper(field)), laying_paper(field)[0])
            self.assertEqual(laying_paper(field)[0] == "laid", bool(right))
            self.assertEqual(raised(need_world, ("floor", field))[0], None if right else "BadWorld")
        self.assertEqual(raised(need_world, ("floor", square(3, 3))), ("BadWorld", {"part": "none"}))
        self.assertEqual(raised(need_world, ("floor", CORNERED[2])), ("BadWorld", {"part": "none"}))
        self.assertEqual(laying_paper(CORNERED[2]), ("unlike",))

    def test_what_holds_together(self):
        """All lots of cells of two rows at each side of the map: what is outside comes together only round the map."""
        whole = [(row, column) for row in range(-1, 7) for column in range(-1, 7)]
        for rows, columns in (((0, 1, 2), (3, 4, 5)), ((3, 4, 5), (0, 1, 2)), ((0, 1), (0, 1, 2, 3)), ((4, 5), (2, 3, 4, 5))):
            cells = [(row, column) for row in rows for column in columns]
            for number in range(1 << len(cells)):
                field = tuple(cell for spot, cell in enumerate(cells) if number >> spot & 1)
                due = len(field) > 1 and is_whole(set(field)) and is_whole(set(whole) - set(field))
                self.assertEqual(raised(need_field, field)[0], None if due else "BadField", field)

    def test_none_takes_long(self):
        """What takes some hundred calls took tens of thousands when each step looked at all HEIGHTS anew."""
        for field in FIELDS:
            if layings_tried(field):
                world = ("floor", field)
                solution, lower = greatest_solution(world), lower_of(world, greatest_solution(world))
                first = least_solution(world)
                for call, args, most in (
                    (need_world, (), 1500), (is_solution, (solution,), 1500), (order_of, (), 3000), (turns, (), 1500),
                    (lower_of, (solution,), 2000), (solution_of, (lower,), 3000), (can_turn, (first,), 2000),
                    (turned, (first, 0), 2000), (all_solutions, (), 6000),
                ):
                    if call is not turned or lower:
                        self.assertLess(calls_of(call, world, *args), most, (call, field))
                self.assertLess(calls_of(need_field, field), 600)
                self.assertLess(calls_of(is_laying, field, first), 1000)


if __name__ == "__main__":
    unittest.main()
