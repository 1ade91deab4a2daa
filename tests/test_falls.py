import itertools
import random
import unittest
from fractions import Fraction

from helper import Same, Thing, ahead_pairs, is_plain, junk, lowers, raised, small_orders, some_order, strange
from turnsall.falls import carry_for, does_fall, fall_of, levels, made_by

ORDER = (4, ((0, 1), (1, 2)))
WORTHS = (-3, 5, 2, -1)
EMPTY = (0, ())


def told():
    dice = random.Random(17)
    for order in small_orders() + [some_order(seed, 8, 25) for seed in range(3)]:
        many = order[0]
        yield order, (0,) * many
        yield order, (-7,) * many
        yield order, tuple(dice.choice((-1000, 1000)) for _ in range(many))
        for wide in (1, 2, 5, 1000):
            for _ in range(2):
                yield order, tuple(dice.randrange(-wide, wide + 1) for _ in range(many))


def pair(number):
    number = Fraction(number)
    return number.numerator, number.denominator


def levels_tried(order, worths):
    """All levels, by trying out all LOWERS."""
    right, spot, found = lowers(order), (), []
    while len(spot) < order[0]:
        means = {}
        for lower in right:
            more = [item for item in lower if item not in spot]
            if more and set(spot) <= set(lower):
                means[lower] = Fraction(sum(worths[item] for item in more), len(more))
        best = [lower for lower in means if means[lower] == max(means.values())]
        most = [lower for lower in best if len(lower) == max(map(len, best))]
        assert len(most) == 1
        found.append((tuple(item for item in most[0] if item not in spot), pair(means[most[0]])))
        spot = most[0]
    return tuple(found)


def made_tried(worths, carry):
    made = [Fraction(worth) for worth in worths]
    for item, far, (top, bottom) in carry:
        made[item] += Fraction(top, bottom)
        made[far] -= Fraction(top, bottom)
    return tuple(pair(each) for each in made)


class Falls(unittest.TestCase):

    def test_levels_and_fall(self):
        for order, worths in told():
            due = levels_tried(order, worths)
            self.assertEqual(levels(order, worths), due)
            means = [Fraction(*mean) for _, mean in due]
            self.assertEqual(means, sorted(set(means), reverse=True))
            by_item = {item: mean for lot, mean in due for item in lot}
            fall = fall_of(order, worths)
            self.assertEqual(fall, tuple(by_item[item] for item in range(order[0])))
            for item, far in ahead_pairs(order):
                self.assertGreaterEqual(Fraction(*fall[item]), Fraction(*fall[far]))

    def test_fall_differs_least(self):
        for order, worths in itertools.islice(told(), 0, None, 4):
            if 0 < order[0] < 5 and max(map(abs, worths)) < 9:
                fall = [Fraction(*each) for each in fall_of(order, worths)]
                least = sum((a - b) ** 2 for a, b in zip(fall, worths))
                ahead = ahead_pairs(order)
                for numbers in itertools.product([Fraction(n, 2) for n in range(-8, 9, 2 if order[0] > 3 else 1)], repeat=order[0]):
                    if all(numbers[a] >= numbers[b] for a, b in ahead) and list(numbers) != fall:
                        self.assertGreater(sum((a - b) ** 2 for a, b in zip(numbers, worths)), least)

    def test_carries(self):
        for order, worths in told():
            carry = carry_for(order, worths)
            self.assertEqual(carry, tuple(sorted(carry)))
            self.assertEqual(len({triple[:2] for triple in carry}), len(carry))
            ahead = ahead_pairs(order)
            level = {item: number for number, (lot, _) in enumerate(levels(order, worths)) for item in lot}
            for item, far, (top, bottom) in carry:
                self.assertIn((item, far), ahead)
                self.assertEqual(pair(Fraction(top, bottom)), (top, bottom))
                self.assertGreater(top, 0)
                self.assertEqual(level[item], level[far])
            self.assertEqual(made_by(order, worths, carry), fall_of(order, worths))
            self.assertEqual(made_by(order, worths, carry), made_tried(worths, carry))
            self.assertIs(does_fall(order, worths, carry), True)

    def test_any_carry(self):
        held = 0
        amounts = [(1, 2), (1, 1), (3, 2), (2, 1)]
        for order, worths in (((2, ((0, 1),)), (0, 1)), ((3, ((0, 1), (0, 2))), (0, 2, 2)), ((3, ((0, 2), (1, 2))), (1, -1, 3)),
                              ((3, ((0, 1), (1, 2))), (0, 3, 3)), ((3, ((0, 1), (1, 2))), (0, 0, 3))):
            ahead = sorted(ahead_pairs(order))
            for size in range(len(ahead) + 1):
                for pairs in itertools.combinations(ahead, size):
                    for some in itertools.product(amounts, repeat=size):
                        carry = tuple(both + (amount,) for both, amount in zip(pairs, some))
                        made = made_tried(worths, carry)
                        self.assertEqual(made_by(order, worths, carry), made)
                        self.assertIs(does_fall(order, worths, carry), made == fall_of(order, worths))
                        held += made == fall_of(order, worths)
                        numbers = [Fraction(*each) for each in made]
                        right = all(numbers[a] >= numbers[b] for a, b in ahead) and all(numbers[a] == numbers[b] for a, b in pairs)
                        self.assertEqual(right, made == fall_of(order, worths))
        self.assertGreater(held, 6)

    def test_edges(self):
        self.assertEqual((levels(EMPTY, ()), fall_of(EMPTY, ()), carry_for(EMPTY, ()), made_by(EMPTY, (), ())), ((), (), (), ()))
        self.assertIs(does_fall(EMPTY, (), ()), True)
        free, whole = (20, ()), tuple(range(20))
        self.assertEqual(levels(free, (1000,) * 20), ((whole, (1000, 1)),))
        self.assertEqual(levels(free, (-1000,) * 20), ((whole, (-1000, 1)),))
        self.assertEqual(levels(free, (0,) * 20), ((whole, (0, 1)),))
        self.assertEqual(carry_for(free, whole), ())
        self.assertIs(does_fall(free, whole, ()), True)
        self.assertEqual(levels(free, whole), tuple(((item,), (item, 1)) for item in whole[::-1]))
        chain = (20, tuple((item, item + 1) for item in range(19)))
        self.assertEqual(levels(chain, whole), ((whole, (19, 2)),))
        self.assertEqual(levels(chain, tuple(-each for each in whole[::-1])), ((whole, (-19, 2)),))
        self.assertEqual(levels(chain, whole[::-1]), tuple(((item,), (19 - item, 1)) for item in whole))
        self.assertEqual(fall_of(chain, (-1000,) * 19 + (1000,)), ((-900, 1),) * 20)
        self.assertEqual(fall_of(chain, (-1,) * 18 + (0, 0)), ((-9, 10),) * 20)
        self.assertIs(does_fall(chain, whole, carry_for(chain, whole)), True)
        self.assertEqual(levels(ORDER, WORTHS), (((0, 1, 2), (4, 3)), ((3,), (-1, 1))))
        self.assertEqual(made_by(ORDER, WORTHS, ()), ((-3, 1), (5, 1), (2, 1), (-1, 1)))
        self.assertIs(does_fall(ORDER, WORTHS, ()), False)
        self.assertEqual(made_by(ORDER, WORTHS, ((0, 1, (11, 3)), (0, 2, (2, 3)))), ((4, 3), (4, 3), (4, 3), (-1, 1)))
        self.assertIs(does_fall(ORDER, WORTHS, ((0, 1, (11, 3)), (0, 2, (2, 3)))), True)
        self.assertIs(does_fall(ORDER, WORTHS, ((0, 1, (13, 3)), (1, 2, (2, 3)))), True)
        large = ((0, 1, (1, 10 ** 59)), (0, 2, (10 ** 59, 7)))
        self.assertEqual(made_by(ORDER, WORTHS, large), made_tried(WORTHS, large))

    def test_wrong_arguments(self):
        calls = ((levels, 0), (fall_of, 0), (carry_for, 0), (made_by, 1), (does_fall, 1))
        for value in junk() + [None, (21, ()), (2, ((1, 0),)), [2, ()]]:
            for call, many in calls:
                self.assertEqual(raised(call, value, *[Thing()] * (many + 1))[0], "BadOrder", value)
        for value in junk() + [None, (), WORTHS[:3], list(WORTHS), (0, 0, 0, 1001), (0, 0, 0, True), (Same(), 0, 0, 0), 0]:
            for call, many in calls:
                kind, fields = raised(call, ORDER, value, *[Thing()] * many)
                self.assertEqual(kind, "BadWorths", value)
                self.assertIs(fields["given"], value)
        wrong = [
            None, [(0, 1, (1, 2))], ((0, 1),), ((0, 1, 1),), ((0, 1, (1,)),), ((0, 1, (2, 2)),), ((0, 1, (2, 4)),), ((0, 1, (0, 1)),),
            ((0, 1, (-1, 2)),), ((0, 1, (1, -2)),), ((0, 1, (1, 0)),), ((0, 1, (-1, -2)),), ((0, 1, (True, 2)),), ((0, 1, (1, True)),),
            ((0, 1, [1, 2]),), ([0, 1, (1, 2)],), ((1, 0, (1, 2)),), ((0, 3, (1, 2)),), ((0, 0, (1, 2)),), ((0, 4, (1, 2)),),
            ((-1, 1, (1, 2)),), ((False, 1, (1, 2)),), ((0, 2, (1, 2)), (0, 1, (1, 2))), ((0, 1, (1, 2)), (0, 1, (1, 2))),
            ((0, 1, (1, 2)), (0, 1, (2, 1))), ((0, 1, (1, None)),), ((0, 1, (Thing(), 2)),), ((0, 1, Same()),), (Same(),), (None,),
            ((0, 1, (1, 2), 0),), 0, "abc",
        ]
        for value in junk() + wrong:
            for call in (made_by, does_fall):
                kind, fields = raised(call, ORDER, WORTHS, value)
                self.assertEqual(kind, "BadCarry", value)
                self.assertIs(fields["given"], value)
        self.assertEqual(made_by(ORDER, WORTHS, ((0, 1, (1, 1)), (0, 2, (1, 2)), (1, 2, (5, 2)))),
                         ((-3, 2), (13, 2), (-1, 1), (-1, 1)))

    def test_what_is_told_is_plain(self):
        order, worths = strange(ORDER), strange(WORTHS)
        found = [levels(order, worths), fall_of(order, worths), carry_for(order, worths)]
        found += [made_by(order, worths, strange(found[-1])), does_fall(order, worths, strange(found[-1]))]
        self.assertTrue(all(is_plain(each) for each in found))


if __name__ == "__main__":
    unittest.main()
