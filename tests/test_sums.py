import itertools
import unittest

from helper import ahead_pairs, bare, is_plain, junk, lots, lowers, raised, small_orders, some_order, strange
from turnsall.sums import about, beside, narrowed, under


class Sums(unittest.TestCase):

    def test_about(self):
        for order in small_orders() + [some_order(2, 20, 25), (20, ())]:
            last = order[0] - 1
            turned = {(last - far, last - item) for item, far in ahead_pairs(order)}
            self.assertEqual(about(order), bare(order[0], turned))
            if order[0] < 8:
                lacking = [tuple(sorted(last - i for i in range(order[0]) if i not in lot)) for lot in lowers(order)]
                self.assertEqual(lowers(about(order)), sorted(lacking))

    def test_beside_and_under(self):
        for order, other in itertools.product(small_orders()[:12], repeat=2):
            many = order[0]
            moved = {(item + many, far + many) for item, far in ahead_pairs(other)}
            all_ahead = {(item, many + far) for item in range(many) for far in range(other[0])}
            told = beside(order, other)
            self.assertEqual(told, bare(many + other[0], ahead_pairs(order) | moved))
            self.assertEqual(under(order, other), bare(many + other[0], ahead_pairs(order) | moved | all_ahead))

    def test_facts_of_lowers(self):
        for order, other in itertools.product(small_orders()[:8], repeat=2):
            many = order[0]
            moved = [tuple(item + many for item in lot) for lot in lowers(other)]
            both = sorted(first + second for first in lowers(order) for second in moved)
            self.assertEqual(lowers(beside(order, other)), both)
            one_by_one = set(lowers(order)) | {tuple(range(many)) + second for second in moved}
            self.assertEqual(lowers(under(order, other)), sorted(one_by_one))

    def test_narrowed(self):
        for order in small_orders():
            ahead = ahead_pairs(order)
            for lot in lots(order[0]):
                kept = {(lot.index(a), lot.index(b)) for a, b in ahead if a in lot and b in lot}
                self.assertEqual(narrowed(order, lot), bare(len(lot), kept))
        order = some_order(4, 6, 30)
        for lot in lots(6):
            have = {tuple(lot.index(item) for item in lower if item in lot) for lower in lowers(order)}
            self.assertEqual(lowers(narrowed(order, lot)), sorted(have))

    def test_more_than_twenty_items(self):
        for call in (beside, under):
            self.assertEqual(call((13, ()), (7, ()))[0], 20)
            self.assertEqual(call((20, ()), (0, ())), (20, ()))
            for first, second in ((20, 1), (1, 20), (20, 20), (11, 10)):
                self.assertEqual(raised(call, (first, ()), (second, ())), ("TooMany", {"most": 20}))
            # All arguments come ahead.
            self.assertEqual(raised(call, (20, ()), (20, [])), ("BadOrder", {"part": "pairs"}))
        self.assertEqual(len(under((10, ()), (10, ()))[1]), 100)

    def test_wrong_arguments(self):
        good = (2, ((0, 1),))
        for value, part in ((None, "form"), ([2, ()], "form"), ((True, ()), "many"), ((2, ((1, 0),)), "pairs")):
            due = ("BadOrder", {"part": part})
            self.assertEqual(raised(about, value), due)
            self.assertEqual(raised(narrowed, value, None), due)
            for call in (beside, under):
                self.assertEqual(raised(call, value, 7), due)
                self.assertEqual(raised(call, good, value), due)
        for value in junk() + [None, 0, [0], (1, 0), (2,), (0, 0), (False,)]:
            kind, fields = raised(narrowed, good, value)
            self.assertEqual(kind, "BadLot", value)
            self.assertIs(fields["given"], value)

    def test_what_is_told_is_plain(self):
        order = strange((3, ((0, 1), (1, 2))))
        told = [about(order), beside(order, order), under(order, order), narrowed(order, strange((0, 2)))]
        self.assertTrue(all(is_plain(each) for each in told))
        self.assertEqual(told[3], (2, ((0, 1),)))


if __name__ == "__main__":
    unittest.main()
