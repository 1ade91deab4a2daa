import itertools
import random
import unittest

from helper import Same, Thing, ahead_pairs, bare, is_plain, junk, lowers, raised, small_orders, some_order, strange
from turnsall.dearpapers import check_dear, dear_paper, is_flow
from turnsall.dearties import dearest_by, dearest_groups
from turnsall.lowers import all_lowers
from turnsall.worths import greatest_dearest, greatest_worth, is_dearest, least_dearest, need_worths, worth_of

ORDER = (4, ((0, 1), (1, 2)))
WORTHS = (-3, 5, 2, -1)
EMPTY = (0, ())
BAD_LOWERS = [None, True, 0, "0", [0], (True,), (None,), (0, 0), (1, 0), (4,), (-1,), ((0,),), Thing(), (Same(),), {0}, (1,), (0, 2)]
BAD_WORTHS = [
    None, (), WORTHS[:3], WORTHS + (0,), list(WORTHS), (0, 0, 0, 1001), (-1001, 0, 0, 0), (0, 0, 0, True), (0, 0, 0, None),
    (0, 0, 0, "1"), (0, 0, 0, (1,)), (0, 0, 0, Thing()), (Same(), 0, 0, 0), "0000", (0, 0, 0, 10 ** 40), 0, {0: 1},
]


def told():
    """ORDERS with WORTHS."""
    dice = random.Random(11)
    for order in small_orders() + [some_order(seed, 8, 25) for seed in range(3)]:
        many = order[0]
        yield order, (0,) * many
        yield order, (7,) * many
        yield order, (-1000,) * many
        for wide in (1, 2, 5, 1000):
            for _ in range(2):
                yield order, tuple(dice.randrange(-wide, wide + 1) for _ in range(many))


def dearest_tried(order, worths):
    """The greatest worth, and all dearest LOWERS."""
    right = {lower: sum(worths[item] for item in lower) for lower in lowers(order)}
    most = max(right.values())
    return most, [lower for lower, worth in right.items() if worth == most]


def meet(lots):
    return tuple(sorted(set.intersection(*[set(lot) for lot in lots])))


def join(lots):
    return tuple(sorted(set().union(*lots)))


def left_tried(order, worths, flow):
    """What a FLOW leaves; None of a tuple of triples of integers that is none."""
    ahead = ahead_pairs(order)
    left = [abs(worth) for worth in worths]
    pairs = [(item, other) for item, other, _ in flow]
    if list(flow) != sorted(flow) or len(set(pairs)) != len(pairs):
        return None
    for item, other, amount in flow:
        if (other, item) not in ahead or worths[item] <= 0 or worths[other] >= 0 or amount < 1:
            return None
        left[item] -= amount
        left[other] -= amount
    return None if min(left, default=0) < 0 else sum(each for each, worth in zip(left, worths) if worth > 0)


class Worths(unittest.TestCase):

    def test_against_trying_out(self):
        for order, worths in told():
            self.assertIs(need_worths(order, worths), worths)
            most, dearest = dearest_tried(order, worths)
            self.assertEqual(greatest_worth(order, worths), most)
            self.assertEqual(least_dearest(order, worths), meet(dearest))
            self.assertEqual(greatest_dearest(order, worths), join(dearest))
            self.assertIn(meet(dearest), dearest)
            self.assertIn(join(dearest), dearest)
            for lower in lowers(order)[:25]:
                self.assertEqual(worth_of(order, worths, lower), sum(worths[item] for item in lower))
                self.assertIs(is_dearest(order, worths, lower), lower in dearest)

    def test_dearest_by_those_within_and_beyond(self):
        for order, worths in itertools.islice(told(), 0, None, 7):
            right = lowers(order)
            for lower in right:
                near = [each for each in right if set(each) <= set(lower) or set(lower) <= set(each)]
                due = all(worth_of(order, worths, each) <= worth_of(order, worths, lower) for each in near)
                self.assertIs(is_dearest(order, worths, lower), due)

    def test_raised_worths(self):
        for order, worths in itertools.islice(told(), 0, None, 3):
            if max([abs(each) for each in worths], default=0) < 900:
                least, greatest = [], []
                for by in range(-9, 10, 3):
                    more = tuple(each + by for each in worths)
                    least.append(set(least_dearest(order, more)))
                    greatest.append(set(greatest_dearest(order, more)))
                for lower, higher in zip(greatest, least[1:]):
                    self.assertLessEqual(lower, higher)

    def test_edges(self):
        self.assertEqual((need_worths(EMPTY, ()), greatest_worth(EMPTY, ()), worth_of(EMPTY, (), ())), ((), 0, 0))
        self.assertEqual((least_dearest(EMPTY, ()), greatest_dearest(EMPTY, ()), is_dearest(EMPTY, (), ())), ((), (), True))
        free, whole = (20, ()), tuple(range(20))
        self.assertEqual((greatest_worth(free, (1000,) * 20), least_dearest(free, (1000,) * 20)), (20000, whole))
        self.assertEqual((greatest_worth(free, (-1000,) * 20), greatest_dearest(free, (-1000,) * 20)), (0, ()))
        self.assertEqual((least_dearest(free, (0,) * 20), greatest_dearest(free, (0,) * 20)), ((), whole))
        chain = (20, tuple((item, item + 1) for item in range(19)))
        self.assertEqual(greatest_worth(chain, (-1000,) * 10 + (1000,) * 10), 0)
        self.assertEqual(greatest_dearest(chain, (-1000,) * 10 + (1000,) * 10), whole)
        self.assertEqual(least_dearest(chain, (-1000,) * 9 + (1000,) * 11), whole)
        # All ahead of all: as many pairs as there can be.
        halves = (20, tuple((item, far) for item in range(10) for far in range(10, 20)))
        worths = tuple(range(-10, 0)) + tuple(range(1, 10)) + (100,)
        self.assertEqual((greatest_worth(halves, worths), least_dearest(halves, worths)), (90, whole))

    def test_wrong_arguments(self):
        calls = ((need_worths, 0), (worth_of, 1), (greatest_worth, 0), (is_dearest, 1), (least_dearest, 0), (greatest_dearest, 0),
                 (is_flow, 1), (dear_paper, 1), (check_dear, 2), (dearest_groups, 0), (dearest_by, 1))
        for value in junk() + [None, (21, ()), (2, ((1, 0),)), [2, ()]]:
            for call, many in calls:
                self.assertEqual(raised(call, value, *[Thing()] * (many + 1))[0], "BadOrder", value)
        for value in junk() + BAD_WORTHS:
            for call, many in calls:
                kind, fields = raised(call, ORDER, value, *[Thing()] * many)
                self.assertEqual(kind, "BadWorths", value)
                self.assertIs(fields["given"], value)
        for value in junk() + BAD_LOWERS:
            for call in (worth_of, is_dearest):
                kind, fields = raised(call, ORDER, WORTHS, value)
                self.assertEqual(kind, "BadLower", value)
                self.assertIs(fields["given"], value)


class Papers(unittest.TestCase):

    def test_papers(self):
        for order, worths in told():
            most = greatest_worth(order, worths)
            for total in (most - 1, most, most + 1, -10 ** 50, 10 ** 50, 0, -1, 1):
                paper = dear_paper(order, worths, total)
                self.assertEqual(paper[0], "dear" if total <= most else "none")
                self.assertEqual(check_dear(order, worths, total, paper), paper[0])
                if paper[0] == "dear":
                    self.assertGreaterEqual(worth_of(order, worths, paper[1]), total)
                else:
                    self.assertLess(left_tried(order, worths, paper[1]), total)
                    self.assertIs(is_flow(order, worths, paper[1]), True)

    def test_any_paper_that_holds(self):
        held = {"dear": 0, "none": 0}
        order, worths = (4, ((0, 2), (0, 3), (1, 3))), (-2, -1, 3, 2)
        pairs = [(2, 0), (3, 0), (3, 1), (0, 2), (2, 1), (2, 3), (3, 3)]
        flows = [()] + [(pair + (n,),) for pair in pairs for n in range(-1, 4)]
        flows += [(a + (m,), b + (n,)) for a, b in itertools.product(pairs[:5], repeat=2) for m in (1, 2, 3) for n in (1, 2)]
        flows += [((2, 0, m), (3, 0, n), (3, 1, k)) for m, n, k in itertools.product((0, 1, 2, 3), repeat=3)]
        for flow in flows:
            left = left_tried(order, worths, flow)
            self.assertIs(is_flow(order, worths, flow), left is not None)
            for total in (1, 2, 3, 4, 5, 6, 99):
                good = left is not None and left < total
                due = (None, "none") if good else ("BadPaper", {"part": "none"})
                self.assertEqual(raised(check_dear, order, worths, total, ("none", flow)), due)
                held["none"] += good
            self.assertTrue(left is None or left >= greatest_worth(order, worths))
        for order, worths in itertools.islice(told(), 0, None, 5):
            most = greatest_worth(order, worths)
            for lower in lowers(order)[:30]:
                for total in (most, most - 1, 0, -3, most + 1):
                    good = worth_of(order, worths, lower) >= total
                    due = (None, "dear") if good else ("BadPaper", {"part": "dear"})
                    self.assertEqual(raised(check_dear, order, worths, total, ("dear", lower)), due)
                    held["dear"] += good
        self.assertGreater(min(held.values()), 30)

    def test_never_both(self):
        for order, worths in itertools.islice(told(), 0, None, 4):
            most = greatest_worth(order, worths)
            flow = dear_paper(order, worths, most + 1)[1]
            self.assertEqual(left_tried(order, worths, flow), most)
            self.assertEqual(raised(check_dear, order, worths, most, ("none", flow)), ("BadPaper", {"part": "none"}))

    def test_bent_papers(self):
        flow = dear_paper(ORDER, WORTHS, 5)[1]
        self.assertEqual(check_dear(ORDER, WORTHS, 5, ("none", flow)), "none")
        for paper in junk() + [None, ("dear",), ("none", flow, 0), ["none", flow], ("dearest", ()), (None, ()), (Same(), ()), ("none",)]:
            self.assertEqual(raised(check_dear, ORDER, WORTHS, 5, paper), ("BadPaper", {"part": "form"}), paper)
        wrong = [
            None, list(flow), (flow[0][:2],), (list(flow[0]),), (flow[0] + (0,),), ((1, 0, True),), ((1, 0, None),), ((True, 0, 1),),
            ((1, 0, 0),), ((1, 0, -1),), ((1, 0, 4),), ((0, 1, 1),), ((1, 3, 1),), ((2, 1, 1),), ((2, 0, 1), (1, 0, 1)),
            ((1, 0, 1), (1, 0, 1)), ((1, 0, 1), (1, 0, 2)), ((1, 0, 2), (2, 0, 2)), ((1, 0, "1"),), ((1, 0, Thing()),), (Same(),), (None,),
            ((1, 0, 1), None), ((4, 0, 1),), ((1, -1, 1),), ((1, 0, (1,)),), (1, 0, 1), "abc",
        ]
        for value in junk() + wrong:
            self.assertIs(is_flow(ORDER, WORTHS, value), False, value)
            self.assertEqual(raised(check_dear, ORDER, WORTHS, 99, ("none", value)), ("BadPaper", {"part": "none"}), value)
        for value in junk() + BAD_LOWERS:
            self.assertEqual(raised(check_dear, ORDER, WORTHS, -99, ("dear", value)), ("BadPaper", {"part": "dear"}), value)
        self.assertIs(is_flow(ORDER, WORTHS, ((1, 0, 2), (2, 0, 1))), True)
        self.assertIs(is_flow(ORDER, WORTHS, ()), True)
        # From an item above 0 alone, and to one below 0 alone.
        row = (4, ((0, 1), (1, 2), (2, 3)))
        for flow, good in ((((1, 0, 1),), False), (((3, 2, 1),), False), (((2, 0, 1), (2, 1, 1)), True), (((3, 0, 1),), True)):
            self.assertIs(is_flow(row, (-2, -1, 3, 2), flow), good)
        self.assertEqual(check_dear(ORDER, WORTHS, 8, ("none", ())), "none")
        self.assertEqual(raised(check_dear, ORDER, WORTHS, 7, ("none", ())), ("BadPaper", {"part": "none"}))

    def test_wrong_totals(self):
        for value in junk() + [None, "1", (1,), [1], 1.5]:
            if type(value) is not int:
                for call, more in ((dear_paper, []), (check_dear, [Thing()])):
                    kind, fields = raised(call, ORDER, WORTHS, value, *more)
                    self.assertEqual(kind, "BadNumber", value)
                    self.assertIs(fields["given"], value)


class Groups(unittest.TestCase):

    def test_groups(self):
        many_groups = rows = 0
        for order, worths in told():
            _, dearest = dearest_tried(order, worths)
            low, high = meet(dearest), join(dearest)
            items = [item for item in high if item not in low]
            parts = {tuple(far for far in items if all((item in each) == (far in each) for each in dearest)) for item in items}
            ahead = {(a, b) for a, b in itertools.permutations(parts, 2) if all(a[0] in each for each in dearest if b[0] in each)}
            numbered = []
            while len(numbered) < len(parts):
                numbered.append(min(part for part in parts if part not in numbered and all(a in numbered for a, b in ahead if b == part)))
            groups, small = dearest_groups(order, worths)
            self.assertEqual(groups, tuple(numbered))
            pairs = {(numbered.index(a), numbered.index(b)) for a, b in ahead}
            self.assertEqual(small, bare(len(numbered), pairs))
            many_groups += len(groups) > 2
            rows += bool(small[1])
            for group in groups:
                self.assertEqual(sum(worths[item] for item in group), 0)
            found = []
            if len(dearest) <= 400:
                for lot in all_lowers(small):
                    found.append(dearest_by(order, worths, lot))
                    self.assertEqual(found[-1], join([low] + [groups[number] for number in lot]))
                self.assertEqual(sorted(found), sorted(dearest))
        self.assertGreater(min(many_groups, rows), 15)

    def test_edges(self):
        self.assertEqual((dearest_groups(EMPTY, ()), dearest_by(EMPTY, (), ())), (((), (0, ())), ()))
        self.assertEqual(dearest_groups(ORDER, WORTHS), ((), (0, ())))
        self.assertEqual(dearest_by(ORDER, WORTHS, ()), (0, 1, 2))
        self.assertEqual(dearest_groups((2, ((0, 1),)), (-4, 4)), (((0, 1),), (1, ())))
        self.assertEqual(dearest_groups((2, ((0, 1),)), (0, 0)), (((0,), (1,)), (2, ((0, 1),))))
        # The least GROUP of those whose GROUPS ahead have numbers comes first, not the least of all.
        order = (5, ((0, 3), (1, 2), (0, 4), (1, 4)))
        order = (5, tuple(sorted(order[1])))
        self.assertEqual(dearest_groups(order, (-1, -1, 1, 1, 0)), (((0, 3), (1, 2), (4,)), (3, ((0, 2), (1, 2)))))
        knot = (4, ((0, 2), (1, 3)))
        self.assertEqual(dearest_groups(knot, (-1, -1, 1, 1)), (((0, 2), (1, 3)), (2, ())))
        # A GROUP with a greater first item is ahead of one with a lesser one.
        order = (4, ((0, 3), (1, 2), (1, 3)))
        self.assertEqual(dearest_groups(order, (-2, -3, 3, 2)), (((1, 2), (0, 3)), (2, ((0, 1),))))
        chain = (20, tuple((item, item + 1) for item in range(19)))
        self.assertEqual(dearest_groups(chain, (0,) * 20), (tuple((item,) for item in range(20)), chain))
        self.assertEqual(dearest_groups(chain, (-1, 1) * 10)[1], (10, tuple((item, item + 1) for item in range(9))))
        self.assertEqual(dearest_by((20, ()), (0,) * 20, tuple(range(3, 20))), tuple(range(3, 20)))

    def test_wrong_lots(self):
        order, worths = (4, ((0, 3), (1, 2), (1, 3))), (-2, -3, 3, 2)
        self.assertEqual(dearest_by(order, worths, (0, 1)), (0, 1, 2, 3))
        for value in junk() + [None, (1,), (2,), (0, 2), (1, 0), (0, 0), [0], (False,), ("0",), ((0,),), 0]:
            kind, fields = raised(dearest_by, order, worths, value)
            self.assertEqual(kind, "BadLot", value)
            self.assertIs(fields["given"], value)

    def test_what_is_told_is_plain(self):
        order, worths, lower = strange(ORDER), strange(WORTHS), strange((0,))
        found = [worth_of(order, worths, lower), greatest_worth(order, worths), is_dearest(order, worths, lower)]
        found += [least_dearest(order, worths), greatest_dearest(order, worths), is_flow(order, worths, lower)]
        found += [dear_paper(order, worths, strange(total)) for total in (4, 5)] + [dearest_groups(order, worths)]
        found += [check_dear(order, worths, strange(5), strange(found[-2])), dearest_by(order, worths, strange(()))]
        self.assertTrue(all(is_plain(each) for each in found))
        self.assertIs(need_worths(order, worths), worths)


if __name__ == "__main__":
    unittest.main()
