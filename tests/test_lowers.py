import itertools
import unittest

from helper import Same, Thing, is_plain, junk, lots, lowers, raised, small_orders, some_order, strange
from turnsall.lowers import all_lowers, can_put, can_take, is_lower, join, meet, put, taken

CHAIN = (20, tuple((item, item + 1) for item in range(19)))
WRONG_LOTS = [None, True, 0, "0", [0], (True,), (None,), (0, 0), (1, 0), (4,), (-1,), ((0,),), Thing(), (Same(),), {0}, "01"]


class Lowers(unittest.TestCase):

    def test_all_lowers(self):
        for order in small_orders():
            self.assertEqual(all_lowers(order), tuple(lowers(order)))
        self.assertEqual(all_lowers((0, ())), ((),))
        self.assertEqual(all_lowers(CHAIN), tuple(tuple(range(many)) for many in range(21)))

    def test_too_many_lowers(self):
        self.assertEqual(len(all_lowers((8, ()))), 256)
        for order in ((9, ()), (20, ())):
            self.assertEqual(raised(all_lowers, order), ("TooMany", {"most": 400}))
        # Rows of 3, 3, 4 and 4 items have 4 * 4 * 5 * 5 LOWERS: just 400.
        rows = (14, tuple(pair for start, end in ((0, 3), (3, 6), (6, 10), (10, 14)) for pair in
                          ((item, item + 1) for item in range(start, end - 1))))
        self.assertEqual(len(all_lowers(rows)), 400)
        one_more = (15, tuple((start, start + 1) for start in (0, 1, 3, 4, 6, 7, 8, 10, 11, 12, 13)))
        self.assertEqual(raised(all_lowers, one_more), ("TooMany", {"most": 400}))

    def test_is_lower(self):
        for order in small_orders():
            right = lowers(order)
            for lot in lots(order[0]):
                self.assertIs(is_lower(order, lot), lot in right)
            for value in junk() + [(order[0],), (0, 0)]:
                self.assertIs(is_lower(order, value), False, value)
        for value in WRONG_LOTS:
            self.assertIs(is_lower((4, ()), value), False, value)
        self.assertIs(is_lower((4, ()), (0, 2, 1)), False)

    def test_putting_and_taking(self):
        for order in small_orders():
            right = lowers(order)
            for lower in right:
                more = [tuple(sorted(lower + (item,))) for item in range(order[0]) if item not in lower]
                more = {item: lot for lot in more for item in lot if item not in lower}
                less = {item: tuple(each for each in lower if each != item) for item in lower}
                self.assertEqual(can_put(order, lower), tuple(item for item in sorted(more) if more[item] in right))
                self.assertEqual(can_take(order, lower), tuple(item for item in sorted(less) if less[item] in right))
                for item in range(order[0]):
                    if item in more and more[item] in right:
                        self.assertEqual(put(order, lower, item), more[item])
                        self.assertEqual(taken(order, more[item], item), lower)
                    else:
                        self.assertEqual(raised(put, order, lower, item), ("BadItem", {"given": item}))
                    if item not in less or less[item] not in right:
                        self.assertEqual(raised(taken, order, lower, item), ("BadItem", {"given": item}))

    def test_meets_and_joins(self):
        for order in small_orders()[:14]:
            right = lowers(order)
            for first, second in itertools.product(right, repeat=2):
                self.assertEqual(meet(order, first, second), tuple(item for item in first if item in second))
                self.assertEqual(join(order, first, second), tuple(sorted(set(first + second))))
                self.assertIn(meet(order, first, second), right)
                self.assertIn(join(order, first, second), right)

    def test_wrong_arguments(self):
        order = (4, ((0, 1), (2, 3)))
        due = ("BadOrder", {"part": "form"})
        for call in (can_put, can_take, is_lower):
            self.assertEqual(raised(call, [], None), due)
        for call in (put, taken, meet, join):
            self.assertEqual(raised(call, [], None, None), due)
        self.assertEqual(raised(all_lowers, (2, [])), ("BadOrder", {"part": "pairs"}))
        for value in WRONG_LOTS + junk() + [(1,), (0, 3), (1, 2)]:
            due = ("BadLower", {"given": value})
            for call in (can_put, can_take):
                kind, fields = raised(call, order, value)
                self.assertEqual(kind, "BadLower", value)
                self.assertIs(fields["given"], value)
            for call in (put, taken, meet, join):
                self.assertIs(raised(call, order, value, None)[1]["given"], value)
                self.assertEqual(raised(call, order, value, None)[0], "BadLower")
            for call in (meet, join):
                self.assertIs(raised(call, order, (0,), value)[1]["given"], value)
                self.assertEqual(raised(call, order, (0,), value)[0], "BadLower")
        for value in junk() + [None, 4, (0,), "0"]:
            for call in (put, taken):
                kind, fields = raised(call, order, (0, 2), value)
                self.assertEqual(kind, "BadItem")
                self.assertIs(fields["given"], value)

    def test_twenty_items(self):
        order = some_order(8, 20, 40)
        lower = ()
        while can_put(order, lower):
            lower = put(order, lower, can_put(order, lower)[-1])
            self.assertTrue(is_lower(order, lower))
        self.assertEqual(lower, tuple(range(20)))
        while can_take(order, lower):
            lower = taken(order, lower, can_take(order, lower)[0])
        self.assertEqual(lower, ())

    def test_what_is_told_is_plain(self):
        order, lower = strange((3, ((0, 1),))), strange((0, 2))
        told = [all_lowers(order), can_put(order, lower), can_take(order, lower), put(order, lower, strange(1))]
        told += [taken(order, lower, strange(2)), meet(order, lower, lower), join(order, lower, lower)]
        self.assertTrue(all(is_plain(each) for each in told))
        self.assertIs(is_lower(order, lower), True)


if __name__ == "__main__":
    unittest.main()
