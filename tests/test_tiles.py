import itertools
import unittest

from helper import (
    Same, Thing, block_turned_tried, floor_oracle, heights_of_tried, is_balanced, is_plain, junk, layings_tried, raised,
    rises_tried, some_fields, square, steps_tried, strange, swapped_pairs, tried_out,
)
from turnsall.floors import all_layings
from turnsall.heights import (
    border_heights, flat_join, flat_meet, greatest_heights, heights_of, laying_at, points_of,
)
from turnsall.lowers import join, meet
from turnsall.tiles import block_turned, blocks_of, standing_in, times_of, way_of
from turnsall.worlds import (
    all_solutions, greatest_solution, least_solution, lower_of, order_of, solution_of, turned, turns,
)

FIELDS = some_fields(50, (2, 3, 4, 5, 6, 7, 8, 9, 10, 12)) + [square(2, 2), square(1, 2), square(3, 4), square(3, 3), square(2, 5)]
LAID = [field for field in FIELDS if layings_tried(field)]
BOX = square(2, 3)
FLAT = (((0, 0), (1, 0)), ((0, 1), (0, 2)), ((1, 1), (1, 2)))
BAD_FIELDS = [None, 0, (), ((0, 0),), ((0, 0), (0, 2)), ((0, 1), (0, 0)), [(0, 0), (0, 1)], ((0, 5), (0, 6)), ((0, 0), (0, True))]
BAD_LAYINGS = [None, (), FLAT[:2], FLAT[::-1], list(FLAT), FLAT + FLAT[:1], FLAT[:2] + (((1, 1), (1, True)),), FLAT[:2] + (None,)]
BAD_BLOCKS = [None, (0,), (0, 0, 0), (0, 2), (1, 0), (-1, 0), (0, False), [0, 0], 0, ("0", 0), ((0, 0), 0), (0, None)]
ELSE = [
    (("net", 2, ()), "word"), (swapped_pairs(28), "word"), (("plan", ((0, 9),), ()), "word"), (("plan", ((0, 21),), ()), "word"),
    (("streets", 1, 1, (1,) * 4), "word"), (("floor", square(3, 3)), "none"), (("floor", ((0, 0),)), "field"), (("floor",), "form"),
    (("floor", BOX, 0), "form"), (("floors", BOX), "form"), (None, "form"), (Thing(), "form"),
]


def four_of(block):
    row, column = block
    return [(row, column), (row, column + 1), (row + 1, column), (row + 1, column + 1)]


def way_tried(laying, block):
    a, b, c, d = four_of(block)
    if (a, b) in laying and (c, d) in laying:
        return "lying"
    return "standing" if (a, c) in laying and (b, d) in laying else None


class Tiles(unittest.TestCase):

    def test_blocks(self):
        for field in FIELDS:
            self.assertEqual(blocks_of(field), tuple(cell for cell in field if all(other in field for other in four_of(cell))))
        self.assertEqual(blocks_of(square(1, 2)), ())
        self.assertEqual(blocks_of(square(3, 3)), ((0, 0), (0, 1), (1, 0), (1, 1)))

    def test_ways_of_blocks(self):
        seen = set()
        for field in LAID:
            for laying in layings_tried(field)[:20]:
                self.assertEqual(standing_in(field, laying), sum(tile[0][1] == tile[1][1] for tile in laying))
                for block in blocks_of(field):
                    way = way_tried(laying, block)
                    seen.add(way)
                    self.assertEqual(way_of(field, laying, block), way)
                    if way is None:
                        self.assertEqual(raised(block_turned, field, laying, block), ("BadBlock", {"given": block}))
                        continue
                    told = block_turned(field, laying, block)
                    self.assertEqual(told, block_turned_tried(laying, *block, (sum(block) % 2 == 0) == (way == "lying")))
                    self.assertEqual(block_turned(field, told, block), laying)
                    self.assertEqual(standing_in(field, told) - standing_in(field, laying), 2 if way == "lying" else -2)
        self.assertEqual(seen, {None, "lying", "standing"})

    def test_times(self):
        for field in LAID[:25] + [square(3, 4)]:
            world = ("floor", field)
            tried = tried_out(*floor_oracle(world))
            for solution in sorted(tried["lowers"])[:20]:
                done = [turns(world)[number][:2] for number in tried["lowers"][solution]]
                for block in blocks_of(field):
                    self.assertEqual(times_of(world, solution, block), done.count(block))

    def test_between_two_turns_of_a_block(self):
        world = ("floor", square(4, 4))
        told = [turn[:2] for turn in turns(world)]
        self.assertEqual(max(told.count(block) for block in told), 2)
        for block in blocks_of(square(4, 4)):
            spots = [spot for spot, turn in enumerate(told) if turn == block]
            for start, end in zip(spots, spots[1:]):
                for near in blocks_of(square(4, 4)):
                    if abs(near[0] - block[0]) + abs(near[1] - block[1]) == 1:
                        self.assertEqual(told[start:end].count(near), 1)

    def test_standing_by_turns(self):
        world = ("floor", square(3, 4))
        for number, turn in enumerate(turns(world)):
            before = solution_of(world, tuple(range(number)))
            more = standing_in(square(3, 4), turned(world, before, number)) - standing_in(square(3, 4), before)
            self.assertEqual(more, 2 if sum(turn[:2]) % 2 == 0 else -2)

    def test_wrong_arguments(self):
        for value in junk() + BAD_FIELDS:
            for call, many in ((blocks_of, 0), (way_of, 2), (block_turned, 2), (standing_in, 1), (points_of, 0), (heights_of, 1),
                               (laying_at, 1), (border_heights, 0)):
                kind, fields = raised(call, value, *[Thing()] * many)
                self.assertEqual(kind, "BadField", value)
                self.assertIs(fields["given"], value)
        for value in junk() + BAD_LAYINGS:
            for call, many in ((way_of, 1), (block_turned, 1), (standing_in, 0), (heights_of, 0)):
                kind, fields = raised(call, BOX, value, *[Thing()] * many)
                self.assertEqual(kind, "BadLaying", value)
                self.assertIs(fields["given"], value)
            kind, fields = raised(times_of, ("floor", BOX), value, Thing())
            self.assertEqual(kind, "BadSolution", value)
            self.assertIs(fields["given"], value)
        self.assertEqual(raised(standing_in, square(3, 3), ()), ("BadLaying", {"given": ()}))
        for value in junk() + BAD_BLOCKS:
            for call, first in ((way_of, BOX), (block_turned, BOX), (times_of, ("floor", BOX))):
                kind, fields = raised(call, first, FLAT, value)
                self.assertEqual(kind, "BadBlock", value)
                self.assertIs(fields["given"], value)
        self.assertEqual(raised(block_turned, BOX, FLAT, (0, 0)), ("BadBlock", {"given": (0, 0)}))
        self.assertEqual(raised(way_of, BOX, FLAT, (0, 0)), (None, None))

    def test_wrong_worlds(self):
        for world, part in ELSE:
            for call, many in ((times_of, 2), (greatest_heights, 0), (flat_meet, 2), (flat_join, 2)):
                self.assertEqual(raised(call, world, *[Thing()] * many), ("BadWorld", {"part": part}))


class Heights(unittest.TestCase):

    def test_points_and_heights(self):
        for field in FIELDS:
            points = sorted({step[0] for step in steps_tried(field)})
            self.assertEqual(points_of(field), tuple(points))
            self.assertEqual(points_of(field), tuple(sorted({p for cell in field for p in four_of(cell)})))
            for laying in layings_tried(field)[:12]:
                self.assertEqual(heights_of(field, laying), tuple(sorted(heights_of_tried(field, laying).items())))
        self.assertEqual(points_of(square(1, 2)), ((0, 0), (0, 1), (0, 2), (1, 0), (1, 1), (1, 2)))
        corner = ((5, 4), (5, 5))
        self.assertEqual(points_of(corner)[-1], (6, 6))
        self.assertEqual(heights_of(square(1, 2), (((0, 0), (0, 1)),)),
                         (((0, 0), 0), ((0, 1), 1), ((0, 2), 0), ((1, 0), -1), ((1, 1), -2), ((1, 2), -1)))

    def test_heights_of_two_layings(self):
        for field in LAID:
            border = dict(border_heights(field))
            for first, second in itertools.combinations(layings_tried(field)[:8], 2):
                self.assertNotEqual(heights_of(field, first), heights_of(field, second))
                for (point, height), (_, other) in zip(heights_of(field, first), heights_of(field, second)):
                    self.assertEqual((height - other) % 4, 0)
                    if point in border:
                        self.assertEqual((height, other), (border[point],) * 2)

    def test_turning_on(self):
        for field in LAID:
            for laying in layings_tried(field)[:10]:
                for block in blocks_of(field):
                    told = block_turned_tried(laying, *block, True)
                    if told is not None:
                        more = dict(heights_of(field, laying))
                        more[block[0] + 1, block[1] + 1] += 4
                        self.assertEqual(heights_of(field, told), tuple(sorted(more.items())))

    def test_laying_at(self):
        for field in LAID:
            for laying in layings_tried(field)[:10]:
                told = heights_of(field, laying)
                self.assertEqual(laying_at(field, told), laying)
                for spot, (point, height) in enumerate(told):
                    for by in (-4, 4, 1, 10 ** 59):
                        bent = told[:spot] + ((point, height + by),) + told[spot + 1:]
                        right = [each for each in layings_tried(field) if heights_of(field, each) == bent]
                        self.assertEqual(laying_at(field, bent), right[0] if right else None)
                self.assertIsNone(laying_at(field, tuple((point, height + 4) for point, height in told)))
        for field in (square(3, 3), ((0, 0), (0, 1), (0, 2))):
            self.assertIsNone(laying_at(field, tuple((point, 0) for point in points_of(field))))

    def test_all_small_heights(self):
        field = square(1, 2)
        points = points_of(field)
        right = {heights_of(field, laying): laying for laying in layings_tried(field)}
        for heights in itertools.product((-2, -1, 0, 1), repeat=len(points)):
            told = tuple(zip(points, heights))
            self.assertEqual(laying_at(field, told), right.get(told))

    def test_wrong_heights(self):
        right = heights_of(BOX, FLAT)
        wrong = [
            None, (), list(right), right[:-1], right + right[-1:], right[::-1], dict(right), right[1:] + right[:1],
            right[:-1] + (((2, 3), None),), right[:-1] + (((2, 3), True),), right[:-1] + (((2, 3), "1"),), right[:-1] + (((2, 4), 1),),
            right[:-1] + (((2, 3), 1, 1),), right[:-1] + ([(2, 3), 1],), right[:-1] + (([2, 3], 1),), right[:-1] + (((2, 3),),),
            right[:-1] + (Thing(),), right[:-1] + ((Same(), 1),), right[:-1] + (((2, 3), Thing()),), (((0, False), 0),) + right[1:],
            tuple(height for _, height in right), points_of(BOX),
        ]
        for value in junk() + wrong:
            kind, fields = raised(laying_at, BOX, value)
            self.assertEqual(kind, "BadHeights", value)
            self.assertIs(fields["given"], value)
        self.assertEqual(laying_at(BOX, right), FLAT)

    def test_border(self):
        seen = set()
        for field in FIELDS:
            told = border_heights(field)
            seen.add(told is None)
            if not is_balanced(field):
                self.assertIsNone(told)
                continue
            heights = rises_tried(field)[1]
            self.assertEqual(told, tuple(sorted(heights.items())))
            border = {point for step, hands in steps_tried(field).items() for point in step if (hands[0] in field) != (hands[1] in field)}
            self.assertEqual({point for point, _ in told}, border)
        self.assertEqual(seen, {True, False})
        self.assertIsNone(border_heights(square(3, 3)))
        self.assertEqual(dict(border_heights(square(2, 2))),
                         {(0, 0): 0, (0, 1): 1, (0, 2): 0, (1, 0): -1, (1, 2): -1, (2, 0): 0, (2, 1): 1, (2, 2): 0})

    def test_greatest_heights(self):
        for field in LAID:
            world = ("floor", field)
            told = greatest_heights(world)
            self.assertEqual(told, heights_of(field, greatest_solution(world)))
            rises, border = rises_tried(field)
            least = dict(border)
            for _ in points_of(field):
                for (start, goal), rise in rises.items():
                    if start in least:
                        least[goal] = min(least.get(goal, 999), least[start] + rise)
            self.assertEqual(told, tuple(sorted(least.items())))

    def test_meets_and_joins(self):
        for field in LAID[:30] + [square(3, 4)]:
            world = ("floor", field)
            order = order_of(world)
            right = {heights_of(field, laying): laying for laying in all_solutions(world)}
            for first, second in itertools.product(list(right.values())[:6], list(right.values())[-6:]):
                pairs = list(zip(heights_of(field, first), heights_of(field, second)))
                low = right[tuple(min(pair) for pair in pairs)]
                high = right[tuple(max(pair) for pair in pairs)]
                self.assertEqual((flat_meet(world, first, second), flat_join(world, first, second)), (low, high))
                lowers = lower_of(world, first), lower_of(world, second)
                self.assertEqual(solution_of(world, meet(order, *lowers)), low)
                self.assertEqual(solution_of(world, join(order, *lowers)), high)
        for call in (flat_meet, flat_join):
            for value in junk() + BAD_LAYINGS:
                for args in ((value, Thing()), (FLAT, value)):
                    kind, fields = raised(call, ("floor", BOX), *args)
                    self.assertEqual(kind, "BadSolution", value)
                    self.assertIs(fields["given"], value)

    def test_least_turns_from_one_to_another(self):
        field = square(3, 4)
        world = ("floor", field)
        for first, second in itertools.product(all_solutions(world), repeat=2):
            times = sum(abs(times_of(world, first, block) - times_of(world, second, block)) for block in blocks_of(field))
            self.assertEqual(times, len(set(lower_of(world, first)) ^ set(lower_of(world, second))))

    def test_what_is_told_is_plain(self):
        field, laying, block = strange(BOX), strange(FLAT), strange((0, 1))
        world = ("floor", field)
        heights = strange(heights_of(BOX, FLAT))
        told = [blocks_of(field), way_of(field, laying, block), block_turned(field, laying, block), standing_in(field, laying)]
        told += [times_of(world, laying, block), points_of(field), heights_of(field, laying), laying_at(field, heights)]
        told += [border_heights(field), greatest_heights(world), flat_meet(world, laying, laying), flat_join(world, laying, laying)]
        self.assertTrue(all(is_plain(each) for each in told))
        self.assertEqual(len(all_layings(field)), 3)
        self.assertEqual(least_solution(world), flat_meet(world, laying, least_solution(world)))


if __name__ == "__main__":
    unittest.main()
