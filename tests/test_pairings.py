import itertools
import unittest

from helper import (
    Same, Thing, breaks, is_plain, junk, next_tried, pairs_oracle, raised, rings_tried, some_pairs, strange,
    swapped_pairs, tried_out, turning_pairs,
)
from turnsall.asking import asks, possible_pairs, sure_pairs
from turnsall.pairabout import pairing_about, pairs_about, tops_turned
from turnsall.pairings import breaking_pairs, is_pairing, next_of, rings
from turnsall.worlds import all_solutions, greatest_solution, is_solution, least_solution, lower_of, order_of, turns

WORLDS = [turning_pairs(many) for many in (1, 2, 3, 4, 5)] + [some_pairs(seed, 2 + seed % 4) for seed in range(20)]
ELSE = [
    (("net", 2, ()), {"part": "word"}), (("plan", ((0, 1),), ()), {"part": "word"}), (("floor", ((0, 0), (0, 1))), {"part": "word"}),
    (("streets", 1, 1, (1, 1, 1, 1)), {"part": "word"}),
    # What need_world refuses comes ahead of the word, and the word ahead of more than 20 TURNS.
    (("plan", ((0, 99),), ()), {"part": "word"}), (("plan", ((0, 9), (0, 9)), ((0, 1, -1), (1, 0, 0))), {"part": "none"}),
    (("net", 1, ()), {"part": "places"}), (("pairs", (), ()), {"part": "many"}), ((), {"part": "form"}), (None, {"part": "form"}),
]
CALLS = [
    (is_pairing, 1), (breaking_pairs, 1), (next_of, 2), (rings, 1), (asks, 1), (possible_pairs, 0), (sure_pairs, 0),
    (pairs_about, 0), (pairing_about, 1), (tops_turned, 2),
]


def asked(world, first):
    """Asking in turn, by the words of the document."""
    _, ones, others = world
    together, heard, told = {}, {one: set() for one in first}, []
    while len(together) < len(first):
        one = [each for each in first if each not in together.values()][0]
        other = [each for each in ones[one] if each not in heard[one]][0]
        heard[one].add(other)
        takes = other not in together or others[other].index(one) < others[other].index(together[other])
        if takes:
            together[other] = one
        told.append((one, other, takes))
    return tuple(told), together


class Pairings(unittest.TestCase):

    def test_breaking_pairs(self):
        for world in WORLDS:
            for row in itertools.permutations(range(len(world[1]))):
                self.assertIs(is_pairing(world, row), True)
                self.assertEqual(breaking_pairs(world, row), tuple(sorted(breaks(world, row))))
                self.assertIs(is_solution(world, row), not breaks(world, row))

    def test_is_pairing(self):
        world = turning_pairs(3)
        for value in junk() + [None, [0, 1, 2], (0, 1), (0, 1, 1), (0, 1, 3), (0, 1, 2, 3), (0, True, 2), (0, 1, Thing())]:
            self.assertIs(is_pairing(world, value), False)
            kind, fields = raised(breaking_pairs, world, value)
            self.assertEqual(kind, "BadPairing", value)
            self.assertIs(fields["given"], value)

    def test_nexts_and_rings(self):
        for world in WORLDS:
            for solution in all_solutions(world):
                for one in range(len(solution)):
                    self.assertEqual(next_of(world, solution, one), next_tried(world, solution, one))
                found = rings(world, solution)
                self.assertEqual(found, tuple(rings_tried(world, solution)))
                ones = [one for ring in found for one in ring]
                self.assertEqual(len(ones), len(set(ones)))
                self.assertTrue(all(len(ring) > 1 for ring in found))
                self.assertEqual(found == (), solution == greatest_solution(world))
        self.assertEqual(rings(turning_pairs(3), (0, 1, 2)), ((0, 1, 2),))
        self.assertIs(next_of(turning_pairs(3), (2, 0, 1), 0), None)

    def test_a_ring_whose_ones_do_not_ascend(self):
        found = set()
        for seed in range(60):
            world = some_pairs(seed, 5)
            found |= {ring for solution in all_solutions(world) for ring in rings(world, solution)}
        self.assertTrue(any(list(ring) != sorted(ring) for ring in found))

    def test_least_and_greatest(self):
        for world in WORLDS:
            right = pairs_oracle(world)[0]
            for one, row in enumerate(world[1]):
                had = sorted({solution[one] for solution in right}, key=row.index)
                self.assertEqual(least_solution(world)[one], had[0])
                self.assertEqual(greatest_solution(world)[one], had[-1])

    def test_possible_and_sure(self):
        for world in WORLDS:
            right = [set(enumerate(solution)) for solution in pairs_oracle(world)[0]]
            self.assertEqual(possible_pairs(world), tuple(sorted(set.union(*right))))
            self.assertEqual(sure_pairs(world), tuple(sorted(set.intersection(*right))))

    def test_turns_that_are_done(self):
        for world in WORLDS + [swapped_pairs(8)]:
            pairs = [pair for turn in turns(world) for pair in turn]
            self.assertEqual(len(pairs), len(set(pairs)))
            for solution in all_solutions(world):
                lower = lower_of(world, solution)
                for number, turn in enumerate(turns(world)):
                    less = {world[1][one].index(solution[one]) > world[1][one].index(other) for one, other in turn}
                    self.assertEqual(less, {number in lower})

    def test_wrong_worlds(self):
        for world, fields in ELSE:
            for call, many in CALLS:
                self.assertEqual(raised(call, world, *[Thing()] * many), ("BadWorld", fields))
        for call, many in CALLS:
            self.assertEqual(raised(call, swapped_pairs(21), *[None] * many), ("TooMany", {"most": 20}))

    def test_wrong_solutions_and_ones(self):
        world = turning_pairs(3)
        for value in junk() + [None, (0, 2, 1), [0, 1, 2], (0, 1), (1, 1, 2)]:
            for call, more in ((next_of, [None]), (rings, [])):
                kind, fields = raised(call, world, value, *more)
                self.assertEqual(kind, "BadSolution", value)
                self.assertIs(fields["given"], value)
        for value in junk() + [None, 3, (0,), "0"]:
            kind, fields = raised(next_of, world, (0, 1, 2), value)
            self.assertEqual(kind, "BadOne", value)
            self.assertIs(fields["given"], value)


class Asking(unittest.TestCase):

    def test_asks(self):
        for world in WORLDS:
            many = len(world[1])
            firsts = list(itertools.permutations(range(many)))
            for first in firsts[:3] + firsts[-3:]:
                told, together = asked(world, first)
                self.assertEqual(asks(world, first), told)
                self.assertEqual({one: other for other, one in together.items()}, dict(enumerate(least_solution(world))))
                self.assertEqual(len(told), sum(row.index(other) + 1 for row, other in zip(world[1], least_solution(world))))
        self.assertEqual(asks(("pairs", ((0, 1), (0, 1)), ((1, 0), (0, 1))), (0, 1)), ((0, 0, True), (1, 0, True), (0, 1, True)))
        self.assertEqual(asks(("pairs", ((0, 1), (0, 1)), ((1, 0), (0, 1))), (1, 0)), ((1, 0, True), (0, 0, False), (0, 1, True)))

    def test_whether_is_told_by_true_or_false(self):
        for ask in asks(some_pairs(3, 12), tuple(range(12))):
            self.assertEqual([type(thing) for thing in ask], [int, int, bool])

    def test_wrong_firsts(self):
        for value in junk() + [None, [0, 1, 2], (0, 1), (0, 1, 1), (0, 1, 2, 3), (1, 2, 3), (True, 0, 2), (0, 1, Same()), "012"]:
            kind, fields = raised(asks, turning_pairs(3), value)
            self.assertEqual(kind, "BadFirst", value)
            self.assertIs(fields["given"], value)


class PairAbout(unittest.TestCase):

    def test_turned_about(self):
        for world in WORLDS:
            turned = pairs_about(world)
            self.assertEqual(turned, ("pairs", world[2], world[1]))
            right = [pairing_about(world, solution) for solution in all_solutions(world)]
            self.assertEqual(sorted(right), sorted(all_solutions(turned)))
            self.assertEqual(least_solution(turned), pairing_about(world, greatest_solution(world)))
            for row in itertools.permutations(range(len(world[1]))):
                other = pairing_about(world, row)
                self.assertEqual([row[one] for one in other], list(range(len(row))))

    def test_tops_turned(self):
        looked_at = 0
        for world in WORLDS + [some_pairs(seed, 6) for seed in range(8)]:
            for one, other in enumerate(least_solution(world)):
                row = world[1][one]
                top = row[:row.index(other)]
                for turned in list(itertools.permutations(top))[:7]:
                    ones = list(world[1])
                    ones[one] = turned + row[len(top):]
                    told = tops_turned(world, one, turned)
                    self.assertEqual(told, ("pairs", tuple(ones), world[2]))
                    self.assertEqual(all_solutions(told), all_solutions(world))
                    self.assertEqual((turns(told), order_of(told)), (turns(world), order_of(world)))
                    looked_at += len(top) > 1
        self.assertGreater(looked_at, 30)

    def test_wrong_arguments(self):
        world = ("pairs", ((0, 1, 2), (1, 0, 2), (1, 0, 2)), ((0, 1, 2), (1, 0, 2), (0, 1, 2)))
        self.assertEqual(least_solution(world), (0, 1, 2))
        self.assertEqual(tops_turned(world, 2, (0, 1))[1], ((0, 1, 2), (1, 0, 2), (0, 1, 2)))
        self.assertEqual(tops_turned(world, 0, ()), world)
        for value in junk() + [None, 3, (0,)]:
            kind, fields = raised(tops_turned, world, value, None)
            self.assertEqual(kind, "BadOne", value)
            self.assertIs(fields["given"], value)
        for value in junk() + [None, [1, 0], (1,), (0, 0), (0, 1, 2), (0, 1, 1), (0, True), (), (0, 2), "01", (0, "1")]:
            kind, fields = raised(tops_turned, world, 2, value)
            self.assertEqual(kind, "BadRow", value)
            self.assertIs(fields["given"], value)
        self.assertEqual(raised(tops_turned, world, 0, (0,)), ("BadRow", {"given": (0,)}))
        for value in junk() + [None, (0, 0, 1), (0, 1), [0, 1, 2]]:
            kind, fields = raised(pairing_about, world, value)
            self.assertEqual(kind, "BadPairing", value)
            self.assertIs(fields["given"], value)

    def test_what_is_told_is_plain(self):
        world = strange(turning_pairs(3))
        row = strange((0, 1, 2))
        told = [breaking_pairs(world, row), next_of(world, row, strange(1)), rings(world, row), asks(world, row)]
        told += [possible_pairs(world), sure_pairs(world), pairs_about(world), pairing_about(world, row)]
        self.assertTrue(all(is_plain(each) for each in told))
        odd = ("pairs", strange(((1, 0, 2), (0, 1, 2), (1, 0, 2))), ((0, 1, 2), (1, 0, 2), (0, 1, 2)))
        self.assertTrue(is_plain(tops_turned(odd, strange(2), strange((0, 1)))))

    def test_eight_with_twenty_turns(self):
        world = swapped_pairs(20)
        self.assertEqual(len(turns(world)), 20)
        self.assertEqual(sure_pairs(world), ())
        self.assertEqual(len(possible_pairs(world)), 48)
        self.assertEqual(tried_out(*pairs_oracle(turning_pairs(4)))["turns"], turns(turning_pairs(4)))


if __name__ == "__main__":
    unittest.main()
