import itertools
import unittest

from helper import (
    Same, Thing, is_balanced, is_plain, is_whole, junk, layings_tried, raised, rises_tried, some_fields, square,
    steps_tried, strange,
)
from turnsall.floors import all_layings, check_laying, is_laying, laying_paper, need_field
from turnsall.worlds import all_solutions

FIELDS = some_fields(60, (2, 3, 4, 5, 6, 7, 8, 9, 10)) + [square(2, 2), square(1, 2), square(3, 4), square(3, 3), square(4, 4)]
# As many dark as light cells, and no LAYING.
BARRED = [
    ((1, 1), (2, 0), (2, 1), (2, 2), (2, 3), (3, 2)), ((1, 3), (2, 3), (2, 4), (3, 2), (3, 3), (4, 3), (4, 4), (4, 5)),
    ((0, 0), (1, 0), (1, 2), (2, 0), (2, 1), (2, 2), (2, 3), (3, 1)),
]
BAD_FIELDS = [
    None, 0, "field", [(0, 0), (0, 1)], {(0, 0), (0, 1)}, (), ((0, 0),), ((0, 1), (0, 0)), ((0, 0), (0, 0)), ((0, 0), (1, 1)),
    ((0, 0), (0, 2)), ((0, 5), (0, 6)), ((-1, 0), (0, 0)), ((5, 0), (6, 0)), ((0, 0), [0, 1]), ((0, 0), (0, True)),
    ((False, 0), (0, 1)), ((0, 0), (0, 1, 2)), ((0, 0), (0,)), ((0, 0), 1), ((0, 0), None), ((0, 0), Thing()),
    ((0, 0), (0, Same())), ((0, 0), "01"), square(3, 6)[:17], square(6, 6),
    tuple(cell for cell in square(3, 3) if cell != (1, 1)),
    tuple(cell for cell in square(4, 4) if cell not in ((1, 1), (2, 2))),
    tuple(cell for cell in square(4, 4) if cell not in ((0, 0), (1, 1))),
]


def does_bar(field, walk):
    """Whether a tuple of POINTS is a WALK that bars."""
    if not is_balanced(field) or not 2 <= len(walk) <= 99:
        return False
    rises, heights = rises_tried(field)
    if walk[0] not in heights or walk[-1] not in heights or not all(step in rises for step in zip(walk, walk[1:])):
        return False
    return sum(rises[step] for step in zip(walk, walk[1:])) < heights[walk[-1]] - heights[walk[0]]


def beside(point):
    """The four pairs beside one that can be POINTS, each in a tuple of its own."""
    row, column = point
    near = [(row + 1, column), (row - 1, column), (row, column + 1), (row, column - 1)]
    return [(pair,) for pair in near if 0 <= min(pair) and max(pair) <= 6]


class Floors(unittest.TestCase):

    def test_need_field(self):
        for field in FIELDS + BARRED:
            self.assertIs(need_field(field), field)
        for value in junk() + BAD_FIELDS:
            for call, more in ((need_field, []), (is_laying, [None]), (all_layings, []), (laying_paper, []), (check_laying, [None])):
                kind, fields = raised(call, value, *more)
                self.assertEqual(kind, "BadField", value)
                self.assertIs(fields["given"], value)

    def test_all_lots_of_cells_of_three_by_three(self):
        cells = [(row, column) for row in range(-1, 7) for column in range(-1, 7)]
        for size in range(10):
            for field in itertools.combinations(square(3, 3), size):
                is_field = size > 1 and is_whole(set(field)) and is_whole(set(cells) - set(field))
                self.assertEqual(raised(need_field, field)[0], None if is_field else "BadField")

    def test_all_layings(self):
        for field in FIELDS:
            self.assertEqual(all_layings(field), tuple(layings_tried(field)))
        self.assertEqual(len(all_layings(square(4, 4))), 36)
        self.assertEqual(all_layings(square(3, 3)), ())
        self.assertEqual(set(all_layings(square(4, 4))), set(all_solutions(("floor", square(4, 4)))))
        self.assertEqual(all_layings(square(2, 2))[0], (((0, 0), (0, 1)), ((1, 0), (1, 1))))

    def test_is_laying(self):
        field = square(2, 3)
        right = layings_tried(field)
        tiles = sorted({tile for laying in right for tile in laying})
        for size in range(5):
            for laying in itertools.product(tiles, repeat=size):
                self.assertIs(is_laying(field, laying), laying in right)
        first = right[0]
        for value in junk() + [
            None, list(first), first[::-1], first[:-1], first + first[-1:], tuple(map(list, first)), tuple(tile[::-1] for tile in first),
            (((0, 0), (1, 1)), ((0, 1), (1, 0)), ((0, 2), (1, 2))), (((0, 0), (0, True)),) + first[1:], first[:2] + (None,),
            first[:2] + (Thing(),), first[:2] + ((Same(), Same()),), first[:2] + (((1, 2), (1, 3)),), first[:2] + ((None, (1, 2)),),
            first[:2] + (("12", (1, 2)),), first[:2] + (((1,), (1, 2)),), first[:2] + (((1, "1"), (1, 2)),), first[:2] + (((1, 1), None),),
        ]:
            self.assertIs(is_laying(field, value), False, value)


class Papers(unittest.TestCase):

    def test_papers(self):
        words = {"laid": 0, "unlike": 0, "walk": 0}
        for field in FIELDS + BARRED + some_fields(300, (6, 8, 10, 12, 14, 16)):
            paper = laying_paper(field)
            words[paper[0]] += 1
            self.assertEqual(check_laying(field, paper), paper[0])
            self.assertEqual(paper[0] == "unlike", not is_balanced(field))
            self.assertEqual(paper[0] == "laid", bool(all_layings(field)))
            if paper[0] == "walk":
                self.assertEqual(len(paper), 2)
                self.assertTrue(does_bar(field, paper[1]))
        self.assertGreater(min(words.values()), 3)

    def test_never_two_sorts(self):
        for field in FIELDS[:30] + BARRED:
            self.assertEqual(raised(check_laying, field, ("unlike",))[0], "BadPaper" if is_balanced(field) else None)
            for laying in layings_tried(field)[:5]:
                self.assertEqual(check_laying(field, ("laid", laying)), "laid")

    def test_any_walk(self):
        held = 0
        for field in BARRED + [square(2, 2), square(2, 3), ((0, 0), (0, 1), (0, 2))]:
            steps = steps_tried(field)
            points = sorted({step[0] for step in steps})
            walks = [(point,) for point in points]
            for _ in range(4):
                walks = [walk + (goal,) for walk in walks for goal in points if (walk[-1], goal) in steps][:1500]
                for walk in walks:
                    due = (None, "walk") if does_bar(field, walk) else ("BadPaper", {"part": "walk"})
                    self.assertEqual(raised(check_laying, field, ("walk", walk)), due)
                    held += due[0] is None
        self.assertGreater(held, 20)

    def test_what_is_no_step(self):
        for field in BARRED:
            border = sorted(rises_tried(field)[1])
            points = [(row, column) for row in range(7) for column in range(7)]
            # Also by POINTS of other FIELDS, and from one to another one that is not beside it.
            walks = [(point,) for point in border]
            for _ in range(3):
                walks = [walk + goal for walk in walks for goal in beside(walk[-1])]
                for walk in walks[::1 + len(walks) // 3000]:
                    due = (None, "walk") if does_bar(field, walk) else ("BadPaper", {"part": "walk"})
                    self.assertEqual(raised(check_laying, field, ("walk", walk)), due)
            jumps = [(start, goal) for start in border for goal in border]
            jumps += [(start, point, goal) for start in border[::2] for point in points[::3] for goal in border[::3]]
            for walk in jumps:
                due = (None, "walk") if does_bar(field, walk) else ("BadPaper", {"part": "walk"})
                self.assertEqual(raised(check_laying, field, ("walk", walk)), due)

    def test_long_walks(self):
        longest = set()
        for field in BARRED:
            heights = rises_tried(field)[1]
            border = {step for step, (right, left) in steps_tried(field).items() if (right in field) != (left in field)}
            walk = laying_paper(field)[1]
            # One STEP along the border changes nothing, and makes the number of POINTS odd or even.
            onward = [goal for start, goal in border if start == walk[-1]][0]
            near = [goal for start, goal in border if start == walk[0]][0]
            for told in (walk, walk + (onward,)):
                self.assertIn(told[-1], heights)
                # To and fro along the border changes nothing, up to 99 POINTS.
                for many in (1, 20, (99 - len(told)) // 2):
                    long = (told[0], near) * many + told
                    longest.add(len(long))
                    self.assertEqual(check_laying(field, ("walk", long)), "walk")
                long = (told[0], near) * ((101 - len(told)) // 2) + told
                self.assertIn(len(long), (100, 101))
                self.assertEqual(raised(check_laying, field, ("walk", long)), ("BadPaper", {"part": "walk"}))
        self.assertEqual(max(longest), 99)

    def test_bent_papers(self):
        field = BARRED[0]
        walk = laying_paper(field)[1]
        for paper in junk() + [
            None, "unlike", ("unlike", 1), ("unlike", ()), ("laid",), ("walk",), ("walk", walk, 0), ["walk", walk], ("walks", walk),
            (None,), (None, walk), (Same(),), (Same(), walk), (("walk",), walk), (), (b"walk", walk), ("Unlike",),
        ]:
            self.assertEqual(raised(check_laying, field, paper), ("BadPaper", {"part": "form"}), paper)
        for value in junk() + [
            None, list(walk), walk[::-1], walk[:1], (), walk + (None,), walk + (Thing(),), tuple(map(list, walk)), walk + walk,
            ((0, 0), (0, 1)), walk + ((True, 0),), (Same(), Same()), ((True, 0),) + walk, (("a", 0),) + walk, ((0, "b"),) + walk,
            ((None, None),) + walk, ((0,),) + walk, (((0, 0), 0),) + walk, ((7, 0),) + walk, ((0, -1),) + walk, (0,) + walk,
        ]:
            self.assertEqual(raised(check_laying, field, ("walk", value)), ("BadPaper", {"part": "walk"}), value)
        for value in junk() + [None, (), [], ((0, 0), (0, 1)), layings_tried(square(2, 3))[0]]:
            self.assertEqual(raised(check_laying, field, ("laid", value)), ("BadPaper", {"part": "laid"}), value)
        self.assertEqual(raised(check_laying, square(2, 2), ("unlike",)), ("BadPaper", {"part": "unlike"}))
        self.assertEqual(check_laying(square(3, 3), ("unlike",)), "unlike")
        self.assertEqual(raised(check_laying, square(3, 3), ("walk", ((0, 0), (0, 1)))), ("BadPaper", {"part": "walk"}))

    def test_what_is_told_is_plain(self):
        for field in (square(2, 3), square(3, 3), BARRED[0]):
            odd = strange(field)
            self.assertIs(need_field(odd), odd)
            paper = laying_paper(odd)
            self.assertTrue(is_plain((paper, all_layings(odd), check_laying(odd, strange(paper)))))


if __name__ == "__main__":
    unittest.main()
