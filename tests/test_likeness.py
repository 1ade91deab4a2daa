import itertools
import unittest

from helper import ahead_pairs, is_plain, raised, small_orders, some_order, strange
from turnsall.likeness import how_many_leads, leads


def leads_tried(order, other):
    """All LEADS, ascending, by trying out all rows."""
    if order[0] != other[0]:
        return []
    first, second = ahead_pairs(order), ahead_pairs(other)
    rows = itertools.permutations(range(order[0]))
    return [row for row in rows if {(row[a], row[b]) for a, b in first} == second]


class Likeness(unittest.TestCase):

    def test_leads(self):
        orders = small_orders()[:16] + [(4, ((0, 1), (2, 3))), (4, ((0, 3), (1, 2))), (4, ((0, 2), (1, 3)))]
        alike = 0
        for order, other in itertools.product(orders, repeat=2):
            all_leads = leads_tried(order, other)
            self.assertEqual(leads(order, other), all_leads[0] if all_leads else None)
            alike += bool(all_leads) and order != other
        self.assertGreater(alike, 5)

    def test_how_many_leads(self):
        for order in small_orders() + [some_order(9, 7, 20)]:
            self.assertEqual(how_many_leads(order), len(leads_tried(order, order)))
        self.assertEqual(how_many_leads((7, ())), 5040)
        self.assertEqual(how_many_leads((0, ())), 1)
        self.assertEqual(leads((0, ()), (0, ())), ())

    def test_more_than_seven_items(self):
        due = ("TooMany", {"most": 7})
        for order, other in (((8, ()), (1, ())), ((1, ()), (8, ())), ((20, ()), (20, ()))):
            self.assertEqual(raised(leads, order, other), due)
        self.assertEqual(raised(how_many_leads, (8, ())), due)
        self.assertEqual(raised(leads, (8, ()), (8, [])), ("BadOrder", {"part": "pairs"}))

    def test_wrong_arguments(self):
        for value, part in ((None, "form"), ((2, (), 1), "form"), ((None, ()), "many"), ((2, ((0, 0),)), "pairs")):
            due = ("BadOrder", {"part": part})
            self.assertEqual(raised(leads, value, 5), due)
            self.assertEqual(raised(leads, (2, ()), value), due)
            self.assertEqual(raised(how_many_leads, value), due)

    def test_what_is_told_is_plain(self):
        order = strange((3, ((0, 1),)))
        self.assertTrue(is_plain(leads(order, order)))


if __name__ == "__main__":
    unittest.main()
