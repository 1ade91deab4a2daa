import itertools
import unittest

from helper import Row, Same, Thing, ahead_pairs, bare, closed, is_plain, junk, raised, small_orders, some_order, strange
from turnsall.orders import are_like, bare_form, closed_form, is_ahead, need_order

BAD_ORDERS = [
    (value, "form") for value in
    (None, True, 3, "ab", b"ab", [2, ()], {2: ()}, (), (2,), (2, (), ()), ((2, ()),), range(2), Thing(), object)
] + [
    ((many, ()), "many") for many in (None, True, False, "2", (2,), [2], -1, 21, 10 ** 40, -10 ** 40, Thing(), Same())
] + [
    ((3, pairs), "pairs") for pairs in (
        None, True, 0, "", "ab", [], [(0, 1)], {}, {(0, 1): 1}, range(0), (0, 1), ((0, 1, 2),), ((0,),), ((),), ([0, 1],),
        ((1, 0),), ((1, 1),), ((0, 3),), ((-1, 0),), ((0, 1), (0, 1)), ((1, 2), (0, 1)), ((0, 2), (0, 1)), ((0, None),),
        ((False, True),), ((0, True),), (("0", "1"),), ((0, 1), None), ((0, 1), Thing()), ((0, Same()),), ((Same(), 1),),
        (((0,), 1),), ((0, 10 ** 30),), (Same(),), ("01",),
    )
]


class Orders(unittest.TestCase):

    def test_need_order_tells_the_very_thing(self):
        for order in small_orders() + [(20, ()), some_order(3, 20, 30), (20, tuple(itertools.combinations(range(20), 2)))]:
            self.assertIs(need_order(order), order)

    def test_bad_orders(self):
        for value, part in BAD_ORDERS:
            self.assertEqual(raised(need_order, value), ("BadOrder", {"part": part}), value)
        for value in junk():
            self.assertEqual(raised(need_order, value)[0], "BadOrder")

    def test_bad_orders_in_all_functions(self):
        good = (1, ())
        for value, part in BAD_ORDERS:
            due = ("BadOrder", {"part": part})
            self.assertEqual(raised(is_ahead, value, None, None), due)
            self.assertEqual(raised(closed_form, value), due)
            self.assertEqual(raised(bare_form, value), due)
            self.assertEqual(raised(are_like, value, None), due)
            self.assertEqual(raised(are_like, good, value), due)

    def test_two_wrong_parts(self):
        self.assertEqual(raised(need_order, (21, [])), ("BadOrder", {"part": "many"}))
        self.assertEqual(raised(need_order, (True, [])), ("BadOrder", {"part": "many"}))

    def test_is_ahead(self):
        for order in small_orders():
            ahead = ahead_pairs(order)
            for item, far in itertools.product(range(order[0]), repeat=2):
                self.assertIs(is_ahead(order, item, far), (item, far) in ahead)

    def test_bad_items(self):
        order = (3, ((0, 1),))
        for value in junk() + [3, None, (0,), "0"]:
            self.assertEqual(raised(is_ahead, order, value, None), ("BadItem", {"given": value}))
            kind, fields = raised(is_ahead, order, 0, value)
            self.assertEqual(kind, "BadItem")
            self.assertIs(fields["given"], value)
        self.assertEqual(raised(is_ahead, (0, ()), 0, 0), ("BadItem", {"given": 0}))

    def test_forms(self):
        for order in small_orders() + [some_order(5, 20, 20), (20, ())]:
            ahead = ahead_pairs(order)
            self.assertEqual(closed_form(order), closed(order[0], ahead))
            self.assertEqual(bare_form(order), bare(order[0], ahead))
            self.assertTrue(are_like(order, closed_form(order)))
            self.assertTrue(are_like(bare_form(order), order))
            self.assertEqual(bare_form(closed_form(order)), bare_form(order))

    def test_are_like(self):
        for order, other in itertools.product(small_orders(), repeat=2):
            same = order[0] == other[0] and ahead_pairs(order) == ahead_pairs(other)
            self.assertIs(are_like(order, other), same)
        self.assertIs(are_like((1, ()), (2, ())), False)
        self.assertIs(are_like((3, ((0, 1), (1, 2))), (3, ((0, 1), (0, 2), (1, 2)))), True)

    def test_what_is_told_is_plain(self):
        order = strange((3, ((0, 1), (1, 2))))
        self.assertIsInstance(order, Row)
        self.assertEqual(need_order(order), (3, ((0, 1), (1, 2))))
        for form in (closed_form(order), bare_form(order)):
            self.assertTrue(is_plain(form))


if __name__ == "__main__":
    unittest.main()
