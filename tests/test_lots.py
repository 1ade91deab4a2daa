import unittest

from helper import ahead_pairs, is_plain, junk, lots, lowers, raised, small_orders, strange
from turnsall.lots import foot, ground, head, is_loose


class Lots(unittest.TestCase):

    def test_all_lots_of_small_orders(self):
        for order in small_orders():
            ahead = ahead_pairs(order)
            for lot in lots(order[0]):
                first = tuple(item for item in lot if not any((item, far) in ahead for far in lot))
                last = tuple(item for item in lot if not any((far, item) in ahead for far in lot))
                below = {item for item, far in ahead if far in lot}
                self.assertEqual(head(order, lot), first)
                self.assertEqual(foot(order, lot), last)
                self.assertEqual(ground(order, lot), tuple(sorted(below | set(lot))))
                self.assertIs(is_loose(order, lot), not any((a, b) in ahead for a in lot for b in lot))

    def test_facts(self):
        for order in small_orders():
            right = lowers(order)
            for lower in right:
                self.assertEqual(ground(order, head(order, lower)), lower)
            for lot in lots(order[0]):
                if is_loose(order, lot):
                    self.assertEqual([lower for lower in right if head(order, lower) == lot], [ground(order, lot)])

    def test_wrong_arguments(self):
        order = (3, ((0, 1),))
        for call in (head, foot, ground, is_loose):
            self.assertEqual(raised(call, (3, ((1, 0),)), None), ("BadOrder", {"part": "pairs"}))
            self.assertEqual(raised(call, None, None), ("BadOrder", {"part": "form"}))
            for value in junk() + [None, 0, [0, 1], (1, 0), (0, 0), (3,), (-1, 0), (0, True), "01", ((0,),)]:
                kind, fields = raised(call, order, value)
                self.assertEqual(kind, "BadLot", value)
                self.assertIs(fields["given"], value)

    def test_no_items_and_twenty(self):
        for call in (head, foot, ground):
            self.assertEqual(call((0, ()), ()), ())
            self.assertEqual(call((20, ()), tuple(range(20))), tuple(range(20)))
        row = (20, tuple((item, item + 1) for item in range(19)))
        self.assertEqual(ground(row, (19,)), tuple(range(20)))
        self.assertEqual((head(row, (3, 7, 11)), foot(row, (3, 7, 11))), ((11,), (3,)))
        self.assertIs(is_loose(row, (3, 7)), False)
        self.assertIs(is_loose(row, ()), True)

    def test_what_is_told_is_plain(self):
        order, lot = strange((3, ((0, 1),))), strange((1, 2))
        self.assertTrue(all(is_plain(call(order, lot)) for call in (head, foot, ground)))


if __name__ == "__main__":
    unittest.main()
