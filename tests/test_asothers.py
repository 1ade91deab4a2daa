import unittest

from helper import ahead_pairs, bare, is_plain, junk, lowers, net_oracle, plan_oracle, raised, small_orders, some_order, strange, tried_out
from turnsall.asothers import as_net, as_plan
from turnsall.worlds import all_solutions, need_world, order_of, turns

ORDER = (3, ((0, 1), (0, 2), (1, 2)))


def orders():
    return [order for order in small_orders() + [some_order(seed, 7, 20) for seed in range(3)] if order[0]]


class AsOthers(unittest.TestCase):

    def test_how_they_look(self):
        self.assertEqual(as_plan(ORDER), ("plan", ((0, 1),) * 3, ((0, 1, 0), (1, 2, 0))))
        self.assertEqual(as_net(ORDER), ("net", 5, ((2, 1, 1), (3, 2, 1))))
        self.assertEqual((as_plan((1, ())), as_net((1, ()))), (("plan", ((0, 1),), ()), ("net", 3, ())))
        # PIPES ascend by what is behind.
        self.assertEqual(as_net((4, ((0, 3), (1, 2)))), ("net", 6, ((3, 2, 1), (4, 1, 1))))
        for order in orders():
            many, pairs = bare(order[0], ahead_pairs(order))
            self.assertEqual(as_plan(order), ("plan", ((0, 1),) * many, tuple((a, b, 0) for a, b in pairs)))
            self.assertEqual(as_net(order), ("net", many + 2, tuple(sorted((b + 1, a + 1, 1) for a, b in pairs))))

    def test_they_lead_back(self):
        for order in orders():
            plan, net = as_plan(order), as_net(order)
            self.assertIs(need_world(plan), plan)
            self.assertIs(need_world(net), net)
            due = bare(order[0], ahead_pairs(order))
            self.assertEqual((order_of(plan), order_of(net)), (due, due))
            self.assertEqual(turns(plan), tuple(((item,), 0) for item in range(order[0])))
            self.assertEqual(turns(net), tuple((item + 1,) for item in range(order[0])))
            right = lowers(order)
            self.assertEqual(sorted(all_solutions(plan)), sorted(tuple(int(item in lower) for item in range(order[0])) for lower in right))
            self.assertEqual(sorted(all_solutions(net)), sorted((0,) + tuple(item + 1 for item in lower) for lower in right))

    def test_against_trying_out(self):
        for order in orders()[:16]:
            for world, oracle in ((as_plan(order), plan_oracle), (as_net(order), net_oracle)):
                tried = tried_out(*oracle(world))
                self.assertEqual((tried["order"], tried["turns"]), (order_of(world), turns(world)))
                self.assertEqual(sorted(tried["lowers"].values()), lowers(order))

    def test_twelve_and_thirteen_items(self):
        for call in (as_plan, as_net):
            for many in (13, 20):
                self.assertEqual(raised(call, (many, ())), ("TooMany", {"most": 12}))
            for pairs in ((), tuple((item, item + 1) for item in range(11)), tuple((a, b) for a in range(6) for b in range(6, 12))):
                world = call((12, pairs))
                self.assertEqual((need_world(world), order_of(world)), (world, (12, pairs)))

    def test_without_items(self):
        for call in (as_plan, as_net):
            self.assertEqual(raised(call, (0, ())), ("BadOrder", {"part": "empty"}))

    def test_wrong_orders(self):
        for value in junk() + [None, (21, ()), (2, ((1, 0),)), [2, ()]]:
            for call in (as_plan, as_net):
                kind, fields = raised(call, value)
                self.assertEqual((kind, fields["part"] in ("form", "many", "pairs")), ("BadOrder", True), value)

    def test_what_is_told_is_plain(self):
        self.assertTrue(is_plain(as_plan(strange(ORDER))) and is_plain(as_net(strange(ORDER))))


if __name__ == "__main__":
    unittest.main()
