import itertools
import random
import unittest

from helper import (
    Same, Thing, hands_tried, held_tried, heights_tried, is_plain, junk, raised, round_tried, some_streets, strange,
    swapped_pairs, town, ways_tried,
)
from turnsall.blocks import at_heights, can_go_back, can_go_round, gone_round, heights, rim
from turnsall.streetgroups import check_height, groups, height_paper, still_blocks, sure_streets
from turnsall.worlds import all_solutions, least_solution, solution_of, turns

FOUR_OUT = ("streets", 2, 2, (1, 1, 1, 1, 4, 1, 1, 1, 1))
WORLDS = [some_streets(seed, rows, columns) for seed in range(4)
          for rows, columns in itertools.product((1, 2, 3), repeat=2)]
WORLDS += [FOUR_OUT, ("streets", 1, 1, (1, 1, 1, 1)), ("streets", 3, 3, (1, 1, 2, 1, 1, 2, 2, 1, 1, 2, 2, 2, 1, 2, 2, 1))]
LARGE = [some_streets(seed, 3, 3) for seed in range(20, 60)]
BAD_BLOCKS = [None, 0, "0", [0], (), (1, 0), (0, 0), (4,), (0, 4), (-1,), (True,), (False, 1), ((0,),), (0, Thing()), (Same(),)]
ELSE = [
    (("net", 2, ()), "word"), (("plan", ((0, 99),), ()), "word"), (swapped_pairs(28), "word"), (("floor", ((0, 0), (0, 1))), "word"),
    (("plan", ((0, 1), (5, 6)), ((0, 1, 3),)), "none"), (("streets", 1, 1, (0, 0, 4, 0)), "none"),
    (("streets", 1, 1, (1, 1, 1)), "outs"), (("streets", 1, 0, ()), "streets"), (("street", 1, 1, ()), "form"), ([], "form"),
]
CALLS = [
    (rim, 1), (can_go_round, 2), (can_go_back, 2), (gone_round, 2), (heights, 1), (at_heights, 1), (sure_streets, 0),
    (groups, 0), (still_blocks, 0), (height_paper, 1), (check_height, 2),
]


def some_blocks(world):
    many = world[1] * world[2]
    found = [lot for size in range(1, many + 1) for lot in itertools.combinations(range(many), size)]
    return found if many < 7 else random.Random(many).sample(found, 40)


def worths_of_steps(world):
    """For each pair of what lies beside one another, None being the outside, 0 or 1: what it costs to go there."""
    found = {}
    for right, left in hands_tried(world, least_solution(world)):
        found[right, left] = 0
        found.setdefault((left, right), 1)
    return found


def walks_tried(world, block):
    """The dict of the COST of all WALKS to the block."""
    steps = worths_of_steps(world)
    found = {}
    for size in range(1, world[1] * world[2] + 1):
        for walk in itertools.permutations(range(world[1] * world[2]), size):
            way = list(zip((None,) + walk, walk))
            if walk[-1] == block and all(step in steps for step in way):
                found[walk] = sum(steps[step] for step in way)
    return found


class Blocks(unittest.TestCase):

    def test_rims(self):
        for world in WORLDS[:12]:
            for blocks in some_blocks(world):
                streets = [
                    street for street, (_, hands) in enumerate(town(world[1], world[2]))
                    if (hands[0] in blocks) != (hands[1] in blocks)
                ]
                self.assertEqual(rim(world, blocks), tuple(streets))
        self.assertEqual(rim(FOUR_OUT, (0,)), (0, 2, 6, 7))
        self.assertEqual(rim(FOUR_OUT, (0, 1, 2, 3)), (0, 1, 4, 5, 6, 8, 9, 11))

    def test_going_round_and_back(self):
        went = 0
        for world in WORLDS:
            right = set(ways_tried(*world[1:]))
            for solution in sorted(right)[:6]:
                for blocks in some_blocks(world):
                    goal, past = round_tried(world, solution, blocks), round_tried(world, solution, blocks, 1)
                    self.assertIs(can_go_round(world, solution, blocks), goal is not None)
                    self.assertIs(can_go_back(world, solution, blocks), past is not None)
                    if goal is None:
                        due = ("BadBlocks", {"given": blocks})
                        self.assertEqual(raised(gone_round, world, solution, blocks), due)
                    else:
                        went += 1
                        self.assertIn(goal, right)
                        self.assertEqual(gone_round(world, solution, blocks), goal)
        self.assertGreater(went, 40)

    def test_some_group_among_those_that_go(self):
        for world in WORLDS:
            for solution in all_solutions(world)[:8]:
                able = [group for group in groups(world) if can_go_round(world, solution, group)]
                for blocks in some_blocks(world):
                    if can_go_round(world, solution, blocks):
                        self.assertTrue(any(set(group) <= set(blocks) for group in able))

    def test_heights(self):
        for world in WORLDS + LARGE:
            least = least_solution(world)
            found = set()
            for solution in ways_tried(*world[1:]):
                told = heights_tried(world, least, solution)
                self.assertEqual(heights(world, solution), told)
                self.assertEqual(at_heights(world, told), solution)
                self.assertGreaterEqual(min(told), 0)
                self.assertLessEqual(max(told), 2)
                found.add(told)
            self.assertEqual(len(found), len(all_solutions(world)))
            self.assertLessEqual(len(turns(world)), 10)

    def test_heights_of_no_solution(self):
        for world in WORLDS[:12] + WORLDS[-3:]:
            right = {heights_tried(world, least_solution(world), ways): ways for ways in ways_tried(*world[1:])}
            many = world[1] * world[2]
            rows = itertools.product((-1, 0, 1, 2, 3), repeat=many) if many < 5 else [(0,) * many, (1,) * many, (3,) * many]
            for row in rows:
                if row in right:
                    self.assertEqual(at_heights(world, row), right[row])
                else:
                    self.assertEqual(raised(at_heights, world, row), ("BadHeights", {"given": row}))
        for value in junk() + [None, [0], (), (0, 0), ("0",), ((0,),), "0", 0, (10 ** 55,), (Same(),)]:
            kind, fields = raised(at_heights, ("streets", 1, 1, (1, 1, 1, 1)), value)
            self.assertEqual(kind, "BadHeights", value)
            self.assertIs(fields["given"], value)

    def test_wrong_arguments(self):
        least = least_solution(FOUR_OUT)
        for world, part in ELSE:
            for call, many in CALLS:
                self.assertEqual(raised(call, world, *[Thing()] * many), ("BadWorld", {"part": part}))
        for value in junk() + [None, least[:-1], least + (0,), list(least), (0,) * 12, (1,) * 12, tuple(map(bool, least))]:
            for call, more in ((can_go_round, [None]), (can_go_back, [None]), (gone_round, [None]), (heights, [])):
                kind, fields = raised(call, FOUR_OUT, value, *more)
                self.assertEqual(kind, "BadSolution", value)
                self.assertIs(fields["given"], value)
        for value in junk() + BAD_BLOCKS:
            for call, more in ((rim, []), (can_go_round, [least]), (can_go_back, [least]), (gone_round, [least])):
                kind, fields = raised(call, FOUR_OUT, *more, value)
                self.assertEqual(kind, "BadBlocks", value)
                self.assertIs(fields["given"], value)


class StreetGroups(unittest.TestCase):

    def test_sure_streets(self):
        for world in WORLDS + LARGE:
            right = ways_tried(*world[1:])
            sure = [(street, each[0]) for street, each in enumerate(zip(*right)) if len(set(each)) == 1]
            self.assertEqual(sure_streets(world), tuple(sure))

    def test_groups_and_still_blocks(self):
        sizes = set()
        for world in WORLDS + LARGE:
            right = ways_tried(*world[1:])
            parts = held_tried(world, right)
            self.assertEqual(groups(world), tuple(sorted(tuple(sorted(part)) for part in parts if None not in part)))
            still, = [part for part in parts if None in part]
            self.assertEqual(still_blocks(world), tuple(sorted(block for block in still if block is not None)))
            for solution in right[:20]:
                high = heights(world, solution)
                self.assertEqual({high[block] for block in still_blocks(world)} | {0}, {0})
                self.assertTrue(all(len({high[block] for block in group}) == 1 for group in groups(world)))
            sizes |= {len(group) for group in groups(world)}
        self.assertIn(1, sizes)
        self.assertGreater(max(sizes), 3)

    def test_four_blocks_that_hold_together(self):
        self.assertEqual(groups(FOUR_OUT), ((0, 1, 2, 3),))
        self.assertEqual(turns(FOUR_OUT), (((0, 1, 2, 3), 0),))
        self.assertEqual(still_blocks(FOUR_OUT), ())
        # From the middle corner 4: up by 7, to the left by 2, to the right by 3, down by 10.
        self.assertEqual(sure_streets(FOUR_OUT), ((2, 0), (3, 1), (7, 0), (10, 1)))

    def test_height_papers(self):
        for world in WORLDS + LARGE:
            highest = [max(each) for each in zip(*[heights(world, ways) for ways in ways_tried(*world[1:])])]
            for block, height in enumerate(highest):
                paper = height_paper(world, block)
                self.assertEqual(paper[0], "walk")
                self.assertEqual(check_height(world, block, paper), height)

    def test_any_paper_that_holds(self):
        held = 0
        for world in WORLDS[:14] + [FOUR_OUT]:
            if world[1] * world[2] > 4:
                continue
            right = {ways: heights(world, ways) for ways in ways_tried(*world[1:])}
            for block in range(world[1] * world[2]):
                for walk, cost in walks_tried(world, block).items():
                    for ways, high in right.items():
                        due = (None, cost) if high[block] == cost else ("BadPaper", {"part": "ways"})
                        self.assertEqual(raised(check_height, world, block, ("walk", walk, ways)), due)
                        held += due[0] is None
                        self.assertLessEqual(high[block], cost)
        self.assertGreater(held, 60)

    def test_bent_papers(self):
        world = FOUR_OUT
        _, walk, ways = height_paper(world, 3)
        for paper in junk() + [None, ("walk",), ("walk", walk), ("walk", walk, ways, 0), ["walk", walk, ways], ("walks", walk, ways)]:
            self.assertEqual(raised(check_height, world, 3, paper), ("BadPaper", {"part": "form"}), paper)
        for first in (None, Same(), ("walk",), b"walk", 0):
            self.assertEqual(raised(check_height, world, 3, (first, walk, ways)), ("BadPaper", {"part": "form"}))
        for value in junk() + [None, (), (0,), (2, 2), (3, 2), (1, 2, 3), (0, 3), (1, 0, 1, 3), (4, 3), (True, 3), [1, 3], (-1, 3)]:
            due = ("BadPaper", {"part": "walk"})
            self.assertEqual(raised(check_height, world, 3, ("walk", value, ways)), due, value)
            self.assertEqual(raised(check_height, world, 3, ("walk", value, None)), due, value)
        for value in junk() + [None, ways[:-1], list(ways), (0,) * 12, least_solution(world), tuple(way == 1 for way in ways)]:
            self.assertEqual(raised(check_height, world, 3, ("walk", walk, value)), ("BadPaper", {"part": "ways"}), value)
        # Through the middle of three by three: the middle block has no street to the outside.
        large = ("streets", 3, 3, (1, 1, 2, 1, 1, 2, 2, 1, 1, 2, 2, 2, 1, 2, 2, 1))
        self.assertEqual(raised(check_height, large, 4, ("walk", (4,), None)), ("BadPaper", {"part": "walk"}))

    def test_wrong_blocks(self):
        for value in junk() + [None, 4, (0,), "0", [0]]:
            for call, more in ((height_paper, []), (check_height, [None])):
                kind, fields = raised(call, FOUR_OUT, value, *more)
                self.assertEqual(kind, "BadBlock", value)
                self.assertIs(fields["given"], value)

    def test_what_is_told_is_plain(self):
        world = strange(FOUR_OUT)
        least = strange(least_solution(world))
        all_four, block = strange((0, 1, 2, 3)), strange(2)
        told = [rim(world, all_four), gone_round(world, least, all_four), heights(world, least), groups(world)]
        told += [at_heights(world, strange((1, 1, 1, 1))), sure_streets(world), still_blocks(world), height_paper(world, block)]
        told += [check_height(world, block, strange(told[-1]))]
        self.assertTrue(all(is_plain(each) for each in told))
        self.assertEqual(told[1], solution_of(world, (0,)))


if __name__ == "__main__":
    unittest.main()
