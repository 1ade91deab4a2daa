import itertools
import random
import unittest

from helper import Same, Thing, is_plain, junk, lowers, raised, small_orders, some_order, strange
from turnsall.betweens import all_between, is_between, middle
from turnsall.nearests import (
    between_ends, farthest_ends, is_by_middles, least_sum, nearest_ends, sum_from,
)
from turnsall.shortways import first_way, way_at, way_count

ORDER = (4, ((0, 1), (1, 2)))
EMPTY = (0, ())
BAD_LOWERS = [None, True, 0, "0", [0], (True,), (None,), (0, 0), (1, 0), (4,), (-1,), ((0,),), Thing(), (Same(),), {0}, (1,), (0, 2)]
BAD_TOLD = [
    None, (), 0, "0", [(0,)], {(0,)}, ((),) * 9, ((0,), [0]), ((0,), (1,)), ((0,), (0, 2)), ((0,), None), ((0,), (True,)), (0,), (0, 1),
    ((0,), Thing()), (Same(),), ((4,),), ((0, 0),),
]


def far(first, second):
    return len(set(first) ^ set(second))


def meet(*lots):
    return tuple(sorted(set.intersection(*[set(lot) for lot in lots])))


def join(*lots):
    return tuple(sorted(set().union(*lots)))


def two_of(first, second, third):
    return tuple(item for item in sorted(set(first + second + third)) if sum(item in lot for lot in (first, second, third)) > 1)


class Betweens(unittest.TestCase):

    def test_between(self):
        for order in small_orders()[:20]:
            right = lowers(order)
            for first, second in itertools.islice(itertools.product(right[::2], right[::-3]), 40):
                due = [lower for lower in right if far(first, lower) + far(lower, second) == far(first, second)]
                self.assertEqual(all_between(order, first, second), tuple(due))
                for third in right:
                    self.assertIs(is_between(order, first, second, third), third in due)
                self.assertEqual(due, [lower for lower in right if set(meet(first, second)) <= set(lower) <= set(join(first, second))])

    def test_on_short_ways(self):
        for order in small_orders()[4:14]:
            right = lowers(order)
            for first, second in zip(right[::2], right[::-2]):
                many = way_count(order, first, second)
                on = {lower for number in range(min(many, 120)) for lower in way_at(order, first, second, number)}
                told = set(all_between(order, first, second))
                self.assertLessEqual(on, told)
                if many <= 120:
                    self.assertEqual(on, told)

    def test_middle(self):
        for order in small_orders()[:16]:
            right = lowers(order)
            for three in itertools.islice(itertools.product(right[::2], right[1::3], right[::-3]), 60):
                told = middle(order, *three)
                self.assertEqual(told, two_of(*three))
                pairs = list(itertools.combinations(three, 2))
                due = [lower for lower in right if all(far(a, lower) + far(lower, b) == far(a, b) for a, b in pairs)]
                self.assertEqual(due, [told])

    def test_edges(self):
        self.assertEqual((all_between(EMPTY, (), ()), middle(EMPTY, (), (), ()), is_between(EMPTY, (), (), ())), (((),), (), True))
        free, whole = (20, ()), tuple(range(20))
        self.assertEqual(all_between(free, whole, whole), (whole,))
        self.assertIs(is_between(free, (), whole, (3, 7)), True)
        self.assertIs(is_between(free, (3,), whole, (7,)), False)
        self.assertEqual(middle(free, whole, (), (1, 2)), (1, 2))
        many = ("TooMany", {"most": 400})
        self.assertEqual(len(all_between(free, (), tuple(range(8)))), 256)
        self.assertEqual(raised(all_between, free, (), tuple(range(9))), many)
        self.assertEqual(raised(all_between, free, tuple(range(5)), tuple(range(5, 10))), many)
        self.assertEqual(raised(all_between, free, (), whole), many)
        chain = (20, tuple((item, item + 1) for item in range(19)))
        self.assertEqual(all_between(chain, whole, ()), tuple(whole[:size] for size in range(21)))
        # Rows of 3, 3, 4 and 4 items have 4 * 4 * 5 * 5 LOWERS: just 400, and there is a fifth row beside them.
        ends = ((0, 3), (3, 6), (6, 10), (10, 14), (14, 20))
        rows = (20, tuple((item, item + 1) for start, end in ends for item in range(start, end - 1)))
        told = all_between(rows, (14,), tuple(range(15)))
        self.assertEqual(len(told), 400)
        self.assertEqual(sorted(set(told)), list(told))
        self.assertEqual(raised(all_between, rows, (), tuple(range(15))), many)
        self.assertEqual(raised(all_between, rows, tuple(range(10)), tuple(range(10, 16))), many)

    def test_wrong_arguments(self):
        calls = ((is_between, 1), (middle, 1), (all_between, 0))
        for value in junk() + [None, (21, ()), (2, ((1, 0),)), [2, ()]]:
            for call, many in calls:
                self.assertEqual(raised(call, value, *[Thing()] * (many + 2))[0], "BadOrder", value)
        for value in junk() + BAD_LOWERS:
            for call, many in calls:
                for spot in range(many + 2):
                    kind, fields = raised(call, ORDER, *[(0,)] * spot, value, *[Thing()] * (many + 1 - spot))
                    self.assertEqual(kind, "BadLower", value)
                    self.assertIs(fields["given"], value)


class Nearests(unittest.TestCase):

    def told(self):
        """ORDERS and told LOWERS of them, from one to eight, some more than once."""
        dice = random.Random(7)
        for order in small_orders():
            right = lowers(order)
            for many in (1, 1, 2, 3, 4, 5, 7, 8):
                yield order, right, tuple(dice.choice(right) for _ in range(many))

    def test_sums(self):
        for order, right, told in self.told():
            sums = {lower: sum(far(lower, each) for each in told) for lower in right}
            for lower in right:
                self.assertEqual(sum_from(order, told, lower), sums[lower])
            self.assertEqual(least_sum(order, told), min(sums.values()))
            low, high = nearest_ends(order, told)
            self.assertEqual(low, tuple(item for item in range(order[0]) if 2 * sum(item in each for each in told) > len(told)))
            nearest = [lower for lower in right if sums[lower] == min(sums.values())]
            self.assertEqual((meet(*nearest), join(*nearest)), (low, high))
            self.assertEqual(nearest, [lower for lower in right if set(low) <= set(lower) <= set(high)])

    def test_by_betweens(self):
        for order, right, told in self.told():
            there = set(told)
            more = True
            while more:
                pairs = list(itertools.combinations(sorted(there), 2))
                more = {x for a, b in pairs for x in right if far(a, x) + far(x, b) == far(a, b)} - there
                there |= more
            low, high = between_ends(order, told)
            self.assertEqual((low, high), (meet(*told), join(*told)))
            self.assertEqual(there, {lower for lower in right if set(low) <= set(lower) <= set(high)})

    def test_by_middles(self):
        seen = {True: 0, False: 0}
        for order, right, told in self.told():
            there = set(told)
            more = True
            while more:
                more = {two_of(*three) for three in itertools.combinations(sorted(there), 3)} - there
                there |= more
            for lower in right:
                self.assertIs(is_by_middles(order, told, lower), lower in there)
                seen[lower in there] += 1
        self.assertGreater(min(seen.values()), 200)

    def test_farthest(self):
        for order in small_orders() + [some_order(seed, 9, 25) for seed in range(4)]:
            right = lowers(order)
            for lower in right[::3] + right[-1:]:
                most = max(far(lower, each) for each in right)
                farthest = [each for each in right if far(lower, each) == most]
                self.assertEqual(farthest_ends(order, lower), (meet(*farthest), join(*farthest)))
        free = (20, ())
        self.assertEqual(farthest_ends(free, (0, 1, 2)), (tuple(range(3, 20)),) * 2)
        self.assertEqual(farthest_ends(free, ()), (tuple(range(20)),) * 2)
        chain = (20, tuple((item, item + 1) for item in range(19)))
        self.assertEqual(farthest_ends(chain, tuple(range(10))), ((), tuple(range(20))))

    def test_edges(self):
        for many in (1, 8):
            told = ((),) * many
            self.assertEqual((nearest_ends(EMPTY, told), least_sum(EMPTY, told), sum_from(EMPTY, told, ())), (((), ()), 0, 0))
            self.assertEqual((between_ends(EMPTY, told), is_by_middles(EMPTY, told, ())), (((), ()), True))
        self.assertEqual(farthest_ends(EMPTY, ()), ((), ()))
        twice = ((0,), (0,), (), (0, 1))
        self.assertEqual(nearest_ends(ORDER, twice), ((0,), (0,)))
        self.assertEqual(nearest_ends(ORDER, ((0,), (0, 1))), ((0,), (0, 1)))
        self.assertEqual((least_sum(ORDER, twice), sum_from(ORDER, twice, (0, 1, 2, 3))), (2, 12))
        whole = tuple(range(20))
        self.assertEqual(least_sum((20, ()), ((), whole) * 4), 80)
        self.assertEqual(nearest_ends((20, ()), ((), whole) * 4), ((), whole))
        self.assertIs(is_by_middles((20, ()), ((), whole) * 4, (1,)), False)

    def test_wrong_arguments(self):
        calls = ((nearest_ends, 0), (least_sum, 0), (sum_from, 1), (between_ends, 0), (is_by_middles, 1))
        for value in junk() + [None, (21, ()), (2, ((1, 0),)), [2, ()]]:
            for call, many in calls + ((farthest_ends, 0),):
                self.assertEqual(raised(call, value, *[Thing()] * (many + 1))[0], "BadOrder", value)
        for value in junk() + BAD_TOLD:
            for call, many in calls:
                kind, fields = raised(call, ORDER, value, *[Thing()] * many)
                self.assertEqual(kind, "BadLowers", value)
                self.assertIs(fields["given"], value)
        for value in junk() + BAD_LOWERS:
            for call, args in ((sum_from, (((0,),), value)), (is_by_middles, (((0,),), value)), (farthest_ends, (value,))):
                kind, fields = raised(call, ORDER, *args)
                self.assertEqual(kind, "BadLower", value)
                self.assertIs(fields["given"], value)

    def test_what_is_told_is_plain(self):
        order, lower, told = strange(ORDER), strange((0,)), strange(((0,), (0, 1), (3,)))
        found = [is_between(order, lower, lower, lower), middle(order, lower, lower, lower), all_between(order, lower, strange((0, 1, 3)))]
        found += [nearest_ends(order, told), least_sum(order, told), sum_from(order, told, lower), between_ends(order, told)]
        found += [is_by_middles(order, told, lower), farthest_ends(order, lower), first_way(order, lower, lower)]
        self.assertTrue(all(is_plain(each) for each in found))


if __name__ == "__main__":
    unittest.main()
