import itertools
import unittest
from fractions import Fraction

from helper import BAD_PINS, Same, Thing, ahead_pairs, fits_tried, good_pins, junk, raised, small_orders, some_order, some_pins
from turnsall.counts import chance, four_of, how_many, sizes
from turnsall.sums import about, beside, under

ORDER = (4, ((0, 1), (1, 2)))
FREE = ((), ())
CHAIN = (20, tuple((item, item + 1) for item in range(19)))
BAD_ITEMS = [None, True, False, -1, 4, 20, "0", "", (0,), [0], (), 10 ** 40, Thing(), Same(), 1j]


class Counts(unittest.TestCase):

    def test_against_trying_out(self):
        sure = 0
        for order in small_orders() + [some_order(seed, 8, 25) for seed in range(3)]:
            for pins in good_pins(order, 22):
                fitting = fits_tried(order, pins)
                self.assertEqual(how_many(order, pins), len(fitting))
                due = [len([lower for lower in fitting if len(lower) == many]) for many in range(order[0] + 1)]
                self.assertEqual(sizes(order, pins), tuple(due))
                for item in range(order[0]):
                    part = Fraction(len([lower for lower in fitting if item in lower]), len(fitting))
                    self.assertEqual(chance(order, pins, item), (part.numerator, part.denominator))
                    sure += part in (0, 1)
                for item, far in itertools.permutations(range(order[0]), 2):
                    both = [(item in lower, far in lower) for lower in fitting]
                    due = tuple(both.count(each) for each in ((True, True), (True, False), (False, True), (False, False)))
                    self.assertEqual(four_of(order, pins, item, far), due)
        self.assertGreater(sure, 500)

    def test_great_orders(self):
        """What all LOWERS are too many to be gone through for."""
        free, ladder = (20, ()), (20, tuple((item, item + 10) for item in range(10)))
        self.assertEqual((how_many(free, FREE), how_many(ladder, FREE), how_many(CHAIN, FREE)), (2 ** 20, 3 ** 10, 21))
        self.assertEqual(sizes(free, FREE)[:4], (1, 20, 190, 1140))
        self.assertEqual(sizes(CHAIN, FREE), (1,) * 21)
        self.assertEqual((chance(ladder, FREE, 3), chance(ladder, FREE, 13)), ((2, 3), (1, 3)))
        self.assertEqual(four_of(ladder, FREE, 3, 13), (3 ** 9, 3 ** 9, 0, 3 ** 9))
        self.assertEqual(four_of(free, ((4,), (5,)), 4, 5), (0, 2 ** 18, 0, 0))
        # Of ten items above ten others, each below two of them, by going on from the first to the last one.
        ring = (20, tuple(sorted((low, 10 + high) for low in range(10) for high in (low, (low + 1) % 10))))
        ways = 0
        for lots in range(2 ** 10):
            open_ones = sum(1 for high in range(10) if lots >> high & 1 and lots >> (high - 1) % 10 & 1)
            ways += 2 ** open_ones
        self.assertEqual(how_many(ring, FREE), ways)
        for order in (free, ladder, ring, some_order(4, 20, 10), some_order(5, 20, 20)):
            self.assertEqual(sum(sizes(order, FREE)), how_many(order, FREE))
            one = how_many(order, ((3,), ())), how_many(order, ((), (3,)))
            self.assertEqual(sum(one), how_many(order, FREE))
            self.assertEqual(sum(four_of(order, FREE, 3, 17)), how_many(order, FREE))

    def test_facts(self):
        orders = small_orders()
        for order in orders + [some_order(seed, 12, 15) for seed in range(4)]:
            for pins in (FREE, ((0,), ())) if order[0] else (FREE,):
                chances = [Fraction(*chance(order, pins, item)) for item in range(order[0])]
                for a, b in ahead_pairs(order):
                    self.assertGreaterEqual(chances[a], chances[b])
                many = how_many(order, pins)
                for a, b in itertools.combinations(range(order[0]), 2):
                    both, one, other, _ = four_of(order, pins, a, b)
                    self.assertGreaterEqual(both * many, (both + one) * (both + other))
            self.assertEqual(sizes(about(order), FREE), sizes(order, FREE)[::-1])
        for first, second in itertools.product(orders[:12], repeat=2):
            one, two = how_many(first, FREE), how_many(second, FREE)
            self.assertEqual(how_many(beside(first, second), FREE), one * two)
            self.assertEqual(how_many(under(first, second), FREE), one + two - 1)
            told = sizes(beside(first, second), FREE)
            for spot in range(first[0] + second[0] + 1):
                due = sum(a * b for i, a in enumerate(sizes(first, FREE)) for j, b in enumerate(sizes(second, FREE)) if i + j == spot)
                self.assertEqual(told[spot], due)

    def test_edges(self):
        self.assertEqual((how_many((0, ()), FREE), sizes((0, ()), FREE)), (1, (1,)))
        self.assertEqual(raised(chance, (0, ()), FREE, 0), ("BadItem", {"given": 0}))
        # Nothing open: sure items are counted, too.
        shut = ((2,), (3,))
        self.assertEqual((how_many(ORDER, shut), sizes(ORDER, shut)), (1, (0, 0, 0, 1, 0)))
        self.assertEqual([chance(ORDER, shut, item) for item in range(4)], [(1, 1), (1, 1), (1, 1), (0, 1)])
        self.assertEqual(four_of(ORDER, shut, 3, 0), (0, 0, 1, 0))
        self.assertEqual(four_of(ORDER, FREE, 1, 0), (4, 0, 2, 2))
        self.assertEqual(four_of(ORDER, FREE, 0, 1), (4, 2, 0, 2))
        self.assertEqual((chance(ORDER, FREE, 0), chance(ORDER, FREE, 3)), ((3, 4), (1, 2)))
        for item in range(4):
            self.assertEqual(raised(four_of, ORDER, FREE, item, item), ("BadItem", {"given": item}))

    def test_wrong_arguments(self):
        calls = ((how_many, []), (sizes, []), (chance, [Thing()]), (four_of, [Thing(), Thing()]))
        for value in junk() + [None, (21, ()), (2, ((1, 0),)), [2, ()]]:
            for call, more in calls:
                self.assertEqual(raised(call, value, Thing(), *more)[0], "BadOrder", value)
        clashing = [pins for pins in some_pins(ORDER, 30) if not fits_tried(ORDER, pins)]
        self.assertGreater(len(clashing), 5)
        for value in junk() + BAD_PINS + clashing:
            for call, more in calls:
                kind, fields = raised(call, ORDER, value, *more)
                self.assertEqual(kind, "BadPins", value)
                self.assertIs(fields["given"], value)
        for value in junk() + BAD_ITEMS:
            for call, more in ((chance, []), (four_of, [Thing()])):
                kind, fields = raised(call, ORDER, FREE, value, *more)
                self.assertEqual(kind, "BadItem", value)
                self.assertIs(fields["given"], value)
            kind, fields = raised(four_of, ORDER, FREE, 1, value)
            self.assertEqual(kind, "BadItem", value)
            self.assertIs(fields["given"], value)


if __name__ == "__main__":
    unittest.main()
