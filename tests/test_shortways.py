import itertools
import math
import unittest

from helper import Same, Thing, is_plain, junk, lots, lowers, raised, small_orders, some_order, strange
from turnsall.shortways import far_from, first_way, is_short, is_way, way_at, way_count, ways_through

ORDER = (4, ((0, 1), (1, 2)))
BAD_LOWERS = [None, True, 0, "0", [0], (True,), (None,), (0, 0), (1, 0), (4,), (-1,), ((0,),), Thing(), (Same(),), {0}, (1,), (0, 2)]
CALLS = ((far_from, 0), (first_way, 0), (way_count, 0), (ways_through, 1), (way_at, 1))


def far(first, second):
    return len(set(first) ^ set(second))


def ways(right, start, goal):
    """All short WAYS, ascending, by trying out."""
    found = [(start,)]
    for _ in range(far(start, goal)):
        found = [way + (lower,) for way in found for lower in right
                 if far(way[-1], lower) == 1 and far(lower, goal) < far(way[-1], goal)]
    return sorted(found)


def rows(order, lot):
    ahead = set()
    for lower in lowers(order):
        ahead |= {(a, b) for a in lower for b in range(order[0]) if b not in lower}
    never = {(a, b) for a in range(order[0]) for b in range(order[0]) if (a, b) not in ahead and a != b}
    return sum(not any((b, a) in never for b, a in itertools.combinations(row, 2)) for row in itertools.permutations(lot))


def orders():
    return small_orders()[:14] + [(5, ()), (5, ((0, 1), (1, 2), (2, 3), (3, 4)))]


class Ways(unittest.TestCase):

    def test_against_trying_out(self):
        for order in orders():
            right = lowers(order)
            for start, goal in itertools.islice(itertools.product(right[::3], right[::-2]), 60):
                tried = ways(right, start, goal)
                self.assertEqual(far_from(order, start, goal), far(start, goal))
                self.assertEqual(way_count(order, start, goal), len(tried))
                self.assertEqual(first_way(order, start, goal), tried[0])
                self.assertTrue(all(len(way) == far(start, goal) + 1 for way in tried))
                for number in {0, 1, len(tried) // 2, len(tried) - 1} & set(range(len(tried))):
                    self.assertEqual(way_at(order, start, goal, number), tried[number])
                for number in (len(tried), -1, 10 ** 30):
                    self.assertEqual(raised(way_at, order, start, goal, number), ("BadNumber", {"given": number}))
                for third in right[:10] + right[-5:]:
                    self.assertEqual(ways_through(order, start, goal, third), sum(third in way for way in tried))

    def test_each_number(self):
        order = (5, ((0, 1), (2, 3)))
        for start, goal in (((), (0, 1, 2, 3, 4)), ((0, 1, 4), (2, 3)), ((2,), (0, 1))):
            tried = ways(lowers(order), start, goal)
            self.assertEqual([way_at(order, start, goal, number) for number in range(len(tried))], tried)

    def test_product_of_three_numbers(self):
        for seed in range(12):
            order = some_order(seed, 6, 30)
            right = lowers(order)
            for start, goal in itertools.product(right[::4], right[1::5]):
                alone = sorted(set(start) - set(goal)), sorted(set(goal) - set(start))
                due = rows(order, alone[0]) * rows(order, alone[1]) * math.comb(far(start, goal), len(alone[0]))
                self.assertEqual(way_count(order, start, goal), due)

    def test_ends(self):
        for order in ((0, ()), ORDER, (20, ())):
            lower = tuple(range(min(order[0], 3)))
            self.assertEqual((far_from(order, lower, lower), first_way(order, lower, lower)), (0, (lower,)))
            self.assertEqual((way_count(order, lower, lower), ways_through(order, lower, lower, lower)), (1, 1))
            self.assertEqual(way_at(order, lower, lower, 0), (lower,))
            for number in (1, -1):
                self.assertEqual(raised(way_at, order, lower, lower, number), ("BadNumber", {"given": number}))
        free = (20, ())
        most = tuple(range(12))
        self.assertEqual(way_count(free, (), most), math.factorial(12))
        self.assertEqual(way_at(free, (), most, math.factorial(12) - 1), tuple(tuple(range(12 - n, 12)) for n in range(13)))
        self.assertEqual(way_at(free, (), most, 0), first_way(free, (), most))
        self.assertEqual(raised(way_at, free, (), most, math.factorial(12)), ("BadNumber", {"given": math.factorial(12)}))
        half, other = tuple(range(6)), tuple(range(14, 20))
        self.assertEqual(way_count(free, half, other), math.factorial(12))
        self.assertEqual(ways_through(free, half, other, ()), math.factorial(6) ** 2)
        self.assertEqual(ways_through(free, half, other, tuple(range(7))), 0)
        self.assertEqual(way_at(free, half, other, 479001599)[0], half)

    def test_too_far(self):
        free, most = (20, ()), tuple(range(13))
        many = ("TooMany", {"most": 12})
        for first, second in (((), most), (most, ()), (tuple(range(7)), tuple(range(7, 13))), (tuple(range(20)), ())):
            self.assertEqual(raised(way_count, free, first, second), many)
            self.assertEqual(raised(ways_through, free, first, second, ()), many)
            for number in junk() + [None, 0, 10 ** 9]:
                self.assertEqual(raised(way_at, free, first, second, number), many)
            # What is wrong among the other arguments is due ahead of it.
            self.assertEqual(raised(ways_through, free, first, second, (20,)), ("BadLower", {"given": (20,)}))
            self.assertEqual(raised(way_count, free, first, (20,)), ("BadLower", {"given": (20,)}))
            self.assertEqual(far_from(free, first, second), far(first, second))
            way = first_way(free, first, second)
            self.assertEqual((way[0], way[-1], len(way)), (first, second, far(first, second) + 1))
            self.assertIs(is_short(free, way), True)
        chain = (20, tuple((item, item + 1) for item in range(19)))
        self.assertEqual(way_count(chain, (0,), most), 1)
        self.assertEqual(raised(way_count, chain, (), most), many)

    def test_is_way(self):
        for order in [(2, ()), (2, ((0, 1),)), (3, ((0, 2),))]:
            right = lowers(order)
            for size in range(4):
                for way in itertools.product(lots(order[0]) + [(order[0],), (1, 0)], repeat=size):
                    good = size > 0 and all(lower in right for lower in way) and all(far(a, b) == 1 for a, b in zip(way, way[1:]))
                    self.assertIs(is_way(order, way), good)
                    self.assertIs(is_short(order, way), good and far(way[0], way[-1]) == size - 1)
        for order in orders()[6:]:
            right = lowers(order)
            for start, goal in zip(right, right[::-1]):
                for way in ways(right, start, goal)[:4]:
                    self.assertIs(is_way(order, way), True)
                    self.assertIs(is_short(order, way), True)
                    round_about = way + way[::-1][1:]
                    self.assertIs(is_way(order, round_about), True)
                    self.assertIs(is_short(order, round_about), len(way) == 1)
                    for bad in (list(way), way + (way[-1],), way + ((0, 0),), way + (None,), way + (Thing(),), way + ([],)):
                        self.assertIs(is_way(order, bad), False)
                        self.assertIs(is_short(order, bad), False)
        for value in junk() + [None, (), 0, ((),) * 2, ((), (0,), (Same(),))]:
            self.assertIs(is_way(ORDER, value), False, value)
            self.assertIs(is_short(ORDER, value), False, value)
        self.assertIs(is_way(ORDER, ((),)), True)
        self.assertIs(is_way((1, ()), ((), (0,)) * 9000), True)
        self.assertIs(is_short((1, ()), ((), (0,)) * 9000), False)

    def test_wrong_arguments(self):
        for value in junk() + [None, (1,), (21, ()), (2, ((1, 0),)), [2, ()]]:
            for call, many in CALLS:
                self.assertEqual(raised(call, value, *[Thing()] * (many + 2))[0], "BadOrder", value)
            for call in (is_way, is_short):
                self.assertEqual(raised(call, value, ((),))[0], "BadOrder", value)
        for value in junk() + BAD_LOWERS:
            for call, many in CALLS:
                for args in ((value, Thing()), ((0,), value)):
                    kind, fields = raised(call, ORDER, *args, *[Thing()] * many)
                    self.assertEqual(kind, "BadLower", value)
                    self.assertIs(fields["given"], value)
            kind, fields = raised(ways_through, ORDER, (), (0,), value)
            self.assertEqual(kind, "BadLower", value)
            self.assertIs(fields["given"], value)
        for value in junk() + [None, 3, "0", (0,), [0]]:
            kind, fields = raised(way_at, ORDER, (), (0, 1, 3), value)
            self.assertEqual(kind, "BadNumber", value)
            self.assertIs(fields["given"], value)

    def test_what_is_told_is_plain(self):
        order, lower, goal = strange(ORDER), strange((0,)), strange((0, 1, 3))
        told = [far_from(order, lower, goal), first_way(order, lower, goal), way_count(order, lower, goal)]
        told += [ways_through(order, lower, goal, strange((0, 1))), way_at(order, lower, goal, strange(1)), is_way(order, (lower,))]
        self.assertTrue(all(is_plain(each) for each in told))


if __name__ == "__main__":
    unittest.main()
