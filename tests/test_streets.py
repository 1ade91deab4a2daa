import itertools
import random
import unittest

from helper import Same, Thing, is_plain, junk, outs_tried, raised, strange, town, ways_tried
from turnsall.streets import check_streets, outs_of, street_ends, street_sides, streets_paper

SIZES = list(itertools.product((1, 2, 3), repeat=2))
BAD_SIZES = [None, True, False, 0, 4, -1, 10 ** 40, "1", (1,), [1], Thing(), Same(), b"\x01"]


def some_outs(seed, rows, columns):
    """OUTS: of some WAYS, of some a little changed, of any."""
    dice = random.Random(seed)
    corners = (rows + 1) * (columns + 1)
    if seed % 4 == 0:
        return tuple(dice.randrange(5) for _ in range(corners))
    outs = list(outs_tried(rows, columns, [dice.randrange(2) for _ in town(rows, columns)]))
    for _ in range(seed % 4 - 1):
        more, less = dice.randrange(corners), dice.randrange(corners)
        if outs[more] < 4 and outs[less] > 0:
            outs[more] += 1
            outs[less] -= 1
    return tuple(outs)


class Streets(unittest.TestCase):

    def test_ends_and_sides(self):
        for rows, columns in SIZES:
            streets = town(rows, columns)
            self.assertEqual(street_ends(rows, columns), tuple(ends for ends, _ in streets))
            self.assertEqual(street_sides(rows, columns), tuple(hands for _, hands in streets))
        self.assertEqual(street_ends(1, 1), ((0, 1), (2, 3), (0, 2), (1, 3)))
        self.assertEqual(street_sides(1, 1), ((0, None), (None, 0), (None, 0), (0, None)))
        self.assertEqual(len(street_ends(3, 3)), 24)
        self.assertEqual(street_sides(2, 1), ((0, None), (1, 0), (None, 1), (None, 0), (0, None), (None, 1), (1, None)))

    def test_outs_of(self):
        for rows, columns in SIZES:
            dice = random.Random(rows * 10 + columns)
            for _ in range(8):
                ways = tuple(dice.randrange(2) for _ in town(rows, columns))
                self.assertEqual(outs_of(rows, columns, ways), outs_tried(rows, columns, ways))
        self.assertEqual(outs_of(1, 1, (1, 1, 1, 1)), (2, 1, 1, 0))

    def test_papers(self):
        words = set()
        for rows, columns in SIZES:
            for seed in range(24):
                outs = some_outs(seed, rows, columns)
                paper = streets_paper(rows, columns, outs)
                self.assertEqual(check_streets(rows, columns, outs, paper), paper[0])
                self.assertEqual(paper[0] == "ways", bool(ways_tried(rows, columns, outs)))
                words.add(paper[0])
        self.assertEqual(words, {"ways", "sum", "corners"})

    def test_any_paper_that_holds(self):
        for seed in range(40):
            outs = some_outs(seed, 1, 2)
            right = ways_tried(1, 2, outs)
            for ways in itertools.product((0, 1), repeat=7):
                due = (None, "ways") if ways in right else ("BadPaper", {"part": "ways"})
                self.assertEqual(raised(check_streets, 1, 2, outs, ("ways", ways)), due)
            due = (None, "sum") if sum(outs) != 7 else ("BadPaper", {"part": "sum"})
            self.assertEqual(raised(check_streets, 1, 2, outs, ("sum",)), due)
            some_hold = False
            for size in range(7):
                for corners in itertools.combinations(range(6), size):
                    inner = [ends for ends, _ in town(1, 2) if ends[0] in corners and ends[1] in corners]
                    holds = sum(outs[corner] for corner in corners) < len(inner)
                    due = (None, "corners") if holds else ("BadPaper", {"part": "corners"})
                    self.assertEqual(raised(check_streets, 1, 2, outs, ("corners", corners)), due)
                    some_hold = some_hold or holds
            self.assertEqual(bool(right), not some_hold and sum(outs) == 7)

    def test_bent_papers(self):
        outs = (1, 1, 1, 1)
        for paper in junk() + [
            None, "ways", ["ways", (1, 1, 0, 1)], (), ("ways",), ("ways", (1, 0, 0, 1), 1), ("sum", ()), ("corners",),
            ("corners", (0,), (1,)), ("none", ()), (None, ()), (Same(), ()), (("ways",), ()), ("Ways", ()), "sum", ("SUM",),
        ]:
            self.assertEqual(raised(check_streets, 1, 1, outs, paper), ("BadPaper", {"part": "form"}), paper)
        right = ways_tried(1, 1, outs)[0]
        for ways in junk() + [None, list(right), right[:3], right + (1,), tuple(way == 1 for way in right), (2, 0, 0, 0)]:
            self.assertEqual(raised(check_streets, 1, 1, outs, ("ways", ways)), ("BadPaper", {"part": "ways"}))
        self.assertEqual(raised(check_streets, 1, 1, outs, ("sum",)), ("BadPaper", {"part": "sum"}))
        outs = (0, 0, 4, 0)
        self.assertEqual(check_streets(1, 1, outs, ("corners", (0, 1))), "corners")
        for corners in junk() + [None, [0, 1], (1, 0), (0, 0, 1), (0, 1, 4), (False, True), (0,), (0, 3), ()]:
            self.assertEqual(raised(check_streets, 1, 1, outs, ("corners", corners)), ("BadPaper", {"part": "corners"}))

    def test_wrong_sizes(self):
        calls = [(street_ends, []), (street_sides, []), (outs_of, [None]), (streets_paper, [None])]
        calls.append((check_streets, [None, None]))
        for call, more in calls:
            for value in BAD_SIZES:
                for args in ((value, None), (value, 1), (1, value), (3, value)):
                    kind, fields = raised(call, *args, *more)
                    self.assertEqual(kind, "BadSize", value)
                    self.assertIs(fields["given"], value)

    def test_wrong_ways_and_outs(self):
        bad_ways = [None, True, 1111, "1111", [1, 1, 1, 1], (1, 1, 1), (1,) * 5, (1, 1, 1, 2), (1, 1, 1, -1), (1, 1, 1, True)]
        for value in junk() + bad_ways + [(1, 1, 1, None), (1, 1, 1, Thing()), (1, 1, 1, Same()), (1, 1, 1, "1"), ()]:
            kind, fields = raised(outs_of, 1, 1, value)
            self.assertEqual(kind, "BadWays", value)
            self.assertIs(fields["given"], value)
        bad_outs = [None, [1, 1, 1, 1], (1, 1, 1), (1,) * 5, (1, 1, 1, 5), (1, 1, 1, -1), (True, 1, 1, 1), (1, 1, 1, Same())]
        for value in junk() + bad_outs:
            for call, more in ((streets_paper, []), (check_streets, [None])):
                kind, fields = raised(call, 1, 1, value, *more)
                self.assertEqual(kind, "BadOuts", value)
                self.assertIs(fields["given"], value)

    def test_what_is_told_is_plain(self):
        one, outs = strange(1), strange((1, 1, 1, 1))
        told = [street_ends(one, one), street_sides(one, one), outs_of(one, one, outs), streets_paper(one, one, outs)]
        told.append(check_streets(one, one, outs, strange(told[3])))
        self.assertTrue(all(is_plain(each) for each in told))


if __name__ == "__main__":
    unittest.main()
