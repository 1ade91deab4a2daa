import itertools
import math
import unittest
from fractions import Fraction

from helper import Same, Thing, ahead_pairs, is_plain, junk, lowers, raised, small_orders, some_order, strange
from turnsall.stairs import falls, is_map, is_strict, line, map_count, strict_count

ORDER = (4, ((0, 1), (1, 2)))
CHAIN = (20, tuple((item, item + 1) for item in range(19)))
# Rows of 3, 3, 4 and 4 items have 4 * 4 * 5 * 5 LOWERS: just 400.
JUST = (14, tuple(pair for start, end in ((0, 3), (3, 6), (6, 10), (10, 14)) for pair in ((item, item + 1) for item in range(start, end - 1))))
# () and 400 with the first item: one more.
MORE = (15, tuple(sorted([(0, item) for item in range(1, 15)] + [(a + 1, b + 1) for a, b in JUST[1]])))


def maps_tried(order, number, strict):
    ahead = ahead_pairs(order)
    rows = itertools.product(range(number), repeat=order[0])
    return [row for row in rows if all(row[a] < row[b] or (row[a] == row[b] and not strict) for a, b in ahead)]


def rows_tried(order):
    ahead = ahead_pairs(order)
    for row in itertools.permutations(range(order[0])):
        if all(row.index(a) < row.index(b) for a, b in ahead):
            yield row


def falls_tried(order):
    counts = [0] * max(order[0], 1)
    for row in rows_tried(order):
        counts[sum(a > b for a, b in zip(row, row[1:]))] += 1
    return tuple(counts)


def some():
    return [order for order in small_orders() if order[0] <= 5]


def choose(things, lot):
    return math.comb(things, lot) if things >= 0 else 0


class Stairs(unittest.TestCase):

    def test_maps_against_trying_out(self):
        for order in some():
            for number in range(5 if order[0] > 4 else 6):
                plain, strict = maps_tried(order, number, False), maps_tried(order, number, True)
                self.assertEqual((map_count(order, number), strict_count(order, number)), (len(plain), len(strict)))
                for row in itertools.product(range(min(number, 3) + 1), repeat=order[0]):
                    self.assertIs(is_map(order, number, row), row in plain)
                    self.assertIs(is_strict(order, number, row), row in strict)

    def test_falls_against_trying_out(self):
        for order in small_orders() + [some_order(seed, 7, 30) for seed in range(4)]:
            self.assertEqual(falls(order), falls_tried(order))
        self.assertEqual((falls((0, ())), falls((1, ())), falls((2, ())), falls((3, ()))), ((1,), (1,), (1, 1), (1, 4, 1)))
        self.assertEqual(falls(CHAIN), (1,) + (0,) * 19)

    def test_facts(self):
        for order in small_orders() + [some_order(seed, 8, 40) for seed in range(4)] + [CHAIN, JUST]:
            many, counts = order[0], falls(order)
            self.assertEqual(len(counts), max(many, 1))
            powers = [Fraction(*each) for each in line(order)]
            self.assertEqual(len(powers), many + 1)
            self.assertNotEqual(powers[-1], 0)
            self.assertTrue(all(math.gcd(top, bottom) == 1 and bottom >= 1 for top, bottom in line(order)))
            self.assertEqual(powers[-1] * math.factorial(many), sum(counts))
            for number in range(21):
                maps, strict = map_count(order, number), strict_count(order, number)
                self.assertEqual(sum(part * number ** power for power, part in enumerate(powers)), maps)
                self.assertEqual(sum(part * (-number) ** power for power, part in enumerate(powers)), strict * (-1) ** many)
                if many:
                    self.assertEqual(maps, sum(count * choose(number + many - 1 - fall, many) for fall, count in enumerate(counts)))
                    self.assertEqual(strict, sum(count * choose(number + fall, many) for fall, count in enumerate(counts)))
            for fall in range(min(many, 20)):
                back = sum((-1) ** j * choose(many + 1, j) * map_count(order, fall + 1 - j) for j in range(fall + 2))
                self.assertEqual(counts[fall], back)

    def test_maps_are_rows_of_lowers(self):
        for order in some()[:12]:
            right = [frozenset(lower) for lower in lowers(order)]
            ways = {lower: 1 for lower in right}
            self.assertEqual(map_count(order, 1), 1)
            for number in range(2, 6):
                self.assertEqual(map_count(order, number), sum(ways.values()))
                ways = {lower: sum(ways[other] for other in right if other <= lower) for lower in right}

    def test_edges(self):
        empty = (0, ())
        for number in (0, 1, 20):
            self.assertEqual((map_count(empty, number), strict_count(empty, number)), (1, 1))
            self.assertIs(is_map(empty, number, ()), True)
            self.assertIs(is_strict(empty, number, ()), True)
        self.assertEqual((falls(empty), line(empty)), ((1,), ((1, 1),)))
        for order in ((1, ()), ORDER, CHAIN):
            self.assertEqual((map_count(order, 0), strict_count(order, 0)), (0, 0))
            self.assertIs(is_map(order, 0, ()), False)
            self.assertIs(is_map(order, 0, (0,) * order[0]), False)
        self.assertEqual((line((1, ())), line((2, ((0, 1),)))), (((0, 1), (1, 1)), ((0, 1), (1, 2), (1, 2))))
        self.assertEqual((map_count(CHAIN, 20), strict_count(CHAIN, 20)), (math.comb(39, 20), 1))
        self.assertEqual((strict_count(CHAIN, 19), map_count((8, ()), 20), strict_count((8, ()), 20)), (0, 20 ** 8, 20 ** 8))
        # An item behind another one by a third one alone.
        self.assertIs(is_map(ORDER, 3, (1, 1, 1, 0)), True)
        self.assertIs(is_map(ORDER, 3, (1, 1, 0, 0)), False)
        self.assertIs(is_strict(ORDER, 3, (0, 1, 2, 0)), True)
        self.assertIs(is_strict(ORDER, 3, (0, 1, 1, 0)), False)
        self.assertIs(is_strict(CHAIN, 20, tuple(range(20))), True)
        self.assertIs(is_strict(CHAIN, 19, tuple(range(20))), False)
        self.assertIs(is_map((20, ()), 20, (19,) * 20), True)
        for number in (-1, 21):
            for call, more in ((is_map, [()]), (is_strict, [()]), (map_count, []), (strict_count, [])):
                self.assertEqual(raised(call, ORDER, number, *more), ("BadNumber", {"given": number}))

    def test_too_many_lowers(self):
        self.assertEqual((len(lowers(JUST)), len(lowers(MORE))), (400, 401))
        self.assertEqual(sum(falls(JUST)), math.factorial(14) // (6 * 6 * 24 * 24))
        self.assertEqual(map_count(JUST, 2), 400)
        due = ("TooMany", {"most": 400})
        for order in (MORE, (9, ()), (20, ())):
            self.assertEqual((raised(falls, order), raised(line, order)), (due, due))
            for number in (0, 20):
                self.assertEqual((raised(map_count, order, number), raised(strict_count, order, number)), (due, due))
            for value in junk() + [None, True, 21]:
                self.assertEqual(raised(map_count, order, value)[0], "BadNumber")
            row = (0,) * order[0]
            self.assertEqual((is_map(order, 1, row), is_strict(order, 1, row)), (True, not order[1]))

    def test_wrong_arguments(self):
        for value in junk() + [None, (21, ()), (2, ((1, 0),)), [2, ()]]:
            for call, more in ((is_map, [Thing()] * 2), (is_strict, [Thing()] * 2), (map_count, [Thing()]), (strict_count, [Thing()]),
                               (falls, []), (line, [])):
                self.assertEqual(raised(call, value, *more)[0], "BadOrder", value)
        for value in junk() + [None, "1", (1,), [1], 21, -1]:
            for call, more in ((is_map, [Thing()]), (is_strict, [Thing()]), (map_count, []), (strict_count, [])):
                kind, fields = raised(call, ORDER, value, *more)
                self.assertEqual(kind, "BadNumber", value)
                self.assertIs(fields["given"], value)
        wrong = [None, (), (0, 0, 0), (0, 0, 0, 0, 0), [0, 0, 0, 0], (0, 0, 0, False), (0, 0, 0, None), (0, 0, 0, "0"), (0, 0, 0, 5),
                 (0, 0, 0, -1), (0, 0, 0, (0,)), (0, 0, 0, Thing()), (Same(), 0, 0, 0), "0000", 0]
        for value in junk() + wrong:
            self.assertIs(is_map(ORDER, 5, value), False, value)
            self.assertIs(is_strict((4, ()), 5, value), False, value)
        self.assertIs(is_strict((4, ()), 5, (0, 4, 0, 0)), True)

    def test_what_is_told_is_plain(self):
        order, number = strange(ORDER), strange(4)
        found = [falls(order), line(order), map_count(order, number), strict_count(order, number), is_map(order, number, strange((0, 1, 2, 3)))]
        self.assertTrue(all(is_plain(each) for each in found))
        self.assertIs(found[-1], True)


if __name__ == "__main__":
    unittest.main()
