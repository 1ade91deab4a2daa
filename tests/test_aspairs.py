import unittest

from helper import ahead_pairs, bare, breaks, closed, is_plain, junk, lowers, pairs_oracle, raised, small_orders, some_order, strange
from turnsall.aspairs import as_pairs, edges_of, turn_items
from turnsall.worlds import all_solutions, is_solution, least_solution, order_of, turns

EMPTY = (0, ())


def edges_tried(order):
    pairs = bare(order[0], ahead_pairs(order))[1]
    edges = list(pairs)
    for item in range(order[0]):
        lacks = 2 - sum(item in pair for pair in pairs)
        edges += [(item,)] * lacks if lacks > 0 else []
    return tuple(edges) if order[0] else ((),)


def moments(order):
    """All pairings of ones and others while the ORDER is made to pairs, the first one ahead."""
    edges = edges_tried(order)
    now = {one: one for one in range(len(edges))}
    yield tuple(now[one] for one in range(len(edges)))
    for item in range(order[0]):
        ring = [one for one in range(len(edges)) if item in edges[one]]
        now.update({one: now[follower] for one, follower in dict(zip(ring, ring[1:] + ring[:1])).items()})
        yield tuple(now[one] for one in range(len(edges)))


def pairs_tried(order):
    rows = list(moments(order))
    many = len(rows[0])
    ones, others = [[] for _ in range(many)], [[] for _ in range(many)]
    for row in rows:
        for one, other in enumerate(row):
            if other not in ones[one]:
                ones[one].append(other)
                others[other].insert(0, one)
    return ("pairs",) + tuple(
        tuple(tuple(row + [each for each in range(many) if each not in row]) for row in side) for side in (ones, others))


def few(order):
    return len(edges_tried(order)) <= 12


class AsPairs(unittest.TestCase):

    def orders(self):
        found = small_orders() + [some_order(seed, 4 + seed % 3, 30 + seed) for seed in range(40)]
        return [order for order in found if few(order)]

    def test_edges(self):
        for order in small_orders() + [some_order(seed, 20, 10 + seed) for seed in range(5)]:
            self.assertEqual(edges_of(order), edges_tried(order))
        self.assertEqual(edges_of(EMPTY), ((),))
        self.assertEqual(edges_of((1, ())), ((0,), (0,)))
        self.assertEqual(edges_of((2, ((0, 1),))), ((0, 1), (0,), (1,)))
        # By the BARE form, whatever PAIRS the ORDER has; an item in no pair, in one, in two, in more.
        self.assertEqual(edges_of((3, ((0, 1), (0, 2), (1, 2)))), ((0, 1), (1, 2), (0,), (2,)))
        self.assertEqual(edges_of((5, ((0, 1), (0, 2), (0, 3)))), ((0, 1), (0, 2), (0, 3), (1,), (2,), (3,), (4,), (4,)))
        self.assertEqual(len(edges_of((20, ()))), 40)
        self.assertEqual(len(edges_of((20, tuple((a, b) for a in range(10) for b in range(10, 20))))), 100)

    def test_worlds(self):
        orders = self.orders()
        self.assertGreater(len(orders), 30)
        for order in orders:
            world = as_pairs(order)
            self.assertEqual(world, pairs_tried(order))
            self.assertEqual(len(world[1]), len(edges_of(order)))
            rows = list(moments(order))
            self.assertEqual([row for row in rows if breaks(world, row) or not is_solution(world, row)], [])
            self.assertEqual(rows[0], least_solution(world))

    def test_they_lead_back(self):
        knots = 0
        for order in self.orders():
            world, items = as_pairs(order), turn_items(order)
            self.assertEqual(sorted(items), list(range(order[0])))
            edges = edges_of(order)
            for turn, item in zip(turns(world), items):
                self.assertEqual([one for one, _ in turn], [one for one, edge in enumerate(edges) if item in edge])
            ahead = {(items[a], items[b]) for a, b in ahead_pairs(order_of(world))}
            self.assertEqual(closed(order[0], ahead), closed(order[0], ahead_pairs(order)))
            knots += 3 < len(ahead)
            if len(lowers(order)) <= 400:
                self.assertEqual(len(all_solutions(world)), len(lowers(order)))
            if len(edges) < 7:
                self.assertEqual(len(pairs_oracle(world)[0]), len(lowers(order)))
        self.assertGreater(knots, 5)

    def test_an_order_without_items(self):
        self.assertEqual(as_pairs(EMPTY), ("pairs", ((0,),), ((0,),)))
        self.assertEqual((turn_items(EMPTY), turns(as_pairs(EMPTY))), ((), ()))

    def test_twelve_and_thirteen_edges(self):
        for order, many in (((6, ()), 12), ((11, tuple((i, i + 1) for i in range(10))), 12), ((7, ((0, 1),)), 13), ((7, ((0, 1), (2, 3))), 12),
                            ((12, tuple((i, i + 1) for i in range(11))), 13), ((20, ()), 40), ((7, ((0, 1), (1, 2), (0, 2))), 12)):
            order = (order[0], tuple(sorted(order[1])))
            self.assertEqual(len(edges_of(order)), many)
            for call in (as_pairs, turn_items):
                if many > 12:
                    self.assertEqual(raised(call, order), ("TooMany", {"most": 12}))
                else:
                    self.assertIsNone(raised(call, order)[0])
        ring = (8, tuple(sorted((a, 4 + b) for a in range(4) for b in (a, (a + 1) % 4))))
        self.assertEqual(len(edges_of(ring)), 8)
        self.assertEqual(len(turn_items(ring)), 8)

    def test_wrong_orders(self):
        for value in junk() + [None, (21, ()), (2, ((1, 0),)), [2, ()]]:
            self.assertEqual([raised(call, value)[0] for call in (edges_of, as_pairs, turn_items)], ["BadOrder"] * 3, value)

    def test_what_is_told_is_plain(self):
        order = strange((3, ((0, 2),)))
        self.assertTrue(all(is_plain(call(order)) for call in (edges_of, as_pairs, turn_items)))


if __name__ == "__main__":
    unittest.main()
