import unittest

from helper import (
    BAD_PINS, Same, Thing, ahead_pairs, fits_tried, is_plain, junk, lowers, raised, small_orders, some_order, some_pins, strange,
)
from turnsall.lots import ground
from turnsall.lowers import all_lowers
from turnsall.pins import do_clash, does_fit, nearest, open_items, sure_in, sure_out
from turnsall.shortways import far_from
from turnsall.sums import narrowed

ORDER = (4, ((0, 1), (1, 2)))
BAD_LOWERS = [None, True, 0, "0", [0], (True,), (None,), (0, 0), (1, 0), (4,), (-1,), ((0,),), Thing(), (Same(),), {0}, (1,), (0, 2)]
FREE = ((), ())


class Pins(unittest.TestCase):

    def test_against_trying_out(self):
        clashing = half = 0
        for order in small_orders() + [some_order(seed, 7, 25) for seed in range(3)]:
            everything = lowers(order)
            for pins in some_pins(order, 40):
                fitting = fits_tried(order, pins)
                self.assertIs(do_clash(order, pins), not fitting)
                if not fitting:
                    clashing += 1
                    self.refuse(order, pins)
                    continue
                held = [{item for item in range(order[0]) if item in lower} for lower in fitting]
                sure = tuple(sorted(set.intersection(*held)))
                barred = tuple(item for item in range(order[0]) if not any(item in each for each in held))
                free = tuple(item for item in range(order[0]) if item not in sure and item not in barred)
                self.assertEqual((sure_in(order, pins), sure_out(order, pins), open_items(order, pins)), (sure, barred, free))
                half += 0 < len(free) < order[0]
                for lower in everything:
                    self.assertIs(does_fit(order, pins, lower), lower in fitting)
                    near = nearest(order, pins, lower)
                    far = [len(set(lower) ^ set(each)) for each in fitting]
                    self.assertEqual([each for each, by in zip(fitting, far) if by == min(far)], [near])
        self.assertGreater(min(clashing, half), 100)

    def refuse(self, order, pins):
        for call, more in ((does_fit, [()]), (sure_in, []), (sure_out, []), (open_items, []), (nearest, [()])):
            kind, fields = raised(call, order, pins, *more)
            self.assertEqual(kind, "BadPins")
            self.assertIs(fields["given"], pins)

    def test_facts(self):
        for order in small_orders():
            ahead = ahead_pairs(order)
            for pins in some_pins(order, 30):
                inside, outside = pins
                sure = ground(order, inside)
                barred = sorted(set(outside) | {b for a, b in ahead if a in outside})
                self.assertIs(do_clash(order, pins), bool(set(sure) & set(barred)))
                if do_clash(order, pins):
                    continue
                self.assertEqual((sure_in(order, pins), sure_out(order, pins)), (sure, tuple(barred)))
                free = open_items(order, pins)
                small = narrowed(order, free)
                fitting = [tuple(sorted(sure + tuple(free[spot] for spot in lower))) for lower in all_lowers(small)]
                self.assertEqual(sorted(fitting), fits_tried(order, pins))
                for lower in lowers(order)[:20]:
                    near = tuple(sorted((set(lower) | set(sure)) - set(barred)))
                    self.assertEqual(nearest(order, pins, lower), near)
                    self.assertTrue(all(far_from(order, lower, near) <= far_from(order, lower, each) for each in fitting))

    def test_edges(self):
        for order in ((0, ()), (1, ()), ORDER, (20, ())):
            self.assertEqual((do_clash(order, FREE), sure_in(order, FREE), sure_out(order, FREE)), (False, (), ()))
            self.assertEqual(open_items(order, FREE), tuple(range(order[0])))
            self.assertEqual((nearest(order, FREE, ()), does_fit(order, FREE, ())), ((), True))
        # An item in both; one in OUT that is ahead of one in IN; the other way round nothing clashes.
        for pins in (((3,), (3,)), ((2,), (0,)), ((2, 3), (1,)), ((0, 1, 2, 3), (0, 1, 2, 3))):
            self.assertIs(do_clash(ORDER, pins), True)
            self.refuse(ORDER, pins)
        pins = ((0,), (2,))
        self.assertIs(do_clash(ORDER, pins), False)
        self.assertEqual((sure_in(ORDER, pins), sure_out(ORDER, pins), open_items(ORDER, pins)), ((0,), (2,), (1, 3)))
        self.assertEqual((nearest(ORDER, pins, ()), nearest(ORDER, pins, (0, 1, 2, 3))), ((0,), (0, 1, 3)))
        # Nothing open.
        shut = ((2,), (3,))
        self.assertEqual((sure_in(ORDER, shut), sure_out(ORDER, shut), open_items(ORDER, shut)), ((0, 1, 2), (3,), ()))
        self.assertEqual({nearest(ORDER, shut, lower) for lower in lowers(ORDER)}, {(0, 1, 2)})
        chain = (20, tuple((item, item + 1) for item in range(19)))
        self.assertEqual((sure_in(chain, ((9,), (12,))), open_items(chain, ((9,), (12,)))), (tuple(range(10)), (10, 11)))
        self.assertEqual(sure_out(chain, ((9,), (12,))), tuple(range(12, 20)))

    def test_wrong_arguments(self):
        calls = ((do_clash, []), (does_fit, [Thing()]), (sure_in, []), (sure_out, []), (open_items, []), (nearest, [Thing()]))
        for value in junk() + [None, (21, ()), (2, ((1, 0),)), [2, ()]]:
            for call, more in calls:
                self.assertEqual(raised(call, value, Thing(), *more)[0], "BadOrder", value)
        for value in junk() + BAD_PINS:
            for call, more in calls:
                kind, fields = raised(call, ORDER, value, *more)
                self.assertEqual(kind, "BadPins", value)
                self.assertIs(fields["given"], value)
        for value in junk() + BAD_LOWERS:
            for call in (does_fit, nearest):
                kind, fields = raised(call, ORDER, ((3,), ()), value)
                self.assertEqual(kind, "BadLower", value)
                self.assertIs(fields["given"], value)
        # PINS that clash are refused ahead of what is no LOWER.
        self.assertEqual(raised(nearest, ORDER, ((2,), (0,)), Thing())[0], "BadPins")
        self.assertEqual(raised(does_fit, ORDER, ((2,), (0,)), (1,))[0], "BadPins")

    def test_what_is_told_is_plain(self):
        order, pins, lower = strange(ORDER), strange(((1,), (3,))), strange((0,))
        found = [call(order, pins) for call in (do_clash, sure_in, sure_out, open_items)]
        found += [nearest(order, pins, lower), does_fit(order, pins, lower)]
        self.assertTrue(all(is_plain(each) for each in found))


if __name__ == "__main__":
    unittest.main()
