import functools
import itertools
import unittest

from helper import BAD_PINS, Same, Thing, fits_tried, good_pins, is_plain, junk, raised, small_orders, some_order, some_pins, strange
from turnsall.asks import ask_tree, best_ask, check_asks, fewest_asks
from turnsall.counts import how_many
from turnsall.pins import open_items

ORDER = (4, ((0, 1), (1, 2)))
FREE = ((), ())


def bad(word):
    return "BadPaper", {"part": word}


def with_in(pins, item):
    return tuple(sorted(pins[0] + (item,))), pins[1]


def with_out(pins, item):
    return pins[0], tuple(sorted(pins[1] + (item,)))


def depth_tried(order, pins):
    """The least depth of all ASK TREES, by all lots of LOWERS that may be left."""
    @functools.lru_cache(maxsize=None)
    def least(fitting):
        if len(fitting) == 1:
            return 0
        found = []
        for item in range(order[0]):
            yes = frozenset(lower for lower in fitting if item in lower)
            if yes and yes != fitting:
                found.append(1 + max(least(yes), least(fitting - yes)))
        return min(found)

    return least(frozenset(fits_tried(order, pins)))


def look_at(test, order, pins, tree):
    """The depth of an ASK TREE, which is right."""
    fitting = fits_tried(order, pins)
    if tree[0] == "is":
        test.assertEqual((len(tree), [tree[1]]), (2, fitting))
        return 0
    word, item, yes, no = tree
    test.assertEqual(word, "ask")
    test.assertEqual({item in lower for lower in fitting}, {True, False})
    return 1 + max(look_at(test, order, with_in(pins, item), yes), look_at(test, order, with_out(pins, item), no))


def all_trees(order, pins):
    """All ASK TREES of few open items."""
    fitting = fits_tried(order, pins)
    if len(fitting) == 1:
        yield ("is", fitting[0]), 0
    for item in open_items(order, pins):
        for (yes, one), (no, other) in itertools.product(all_trees(order, with_in(pins, item)), all_trees(order, with_out(pins, item))):
            yield ("ask", item, yes, no), 1 + max(one, other)


class Asks(unittest.TestCase):

    def test_best_ask(self):
        ties = 0
        for order in small_orders() + [some_order(seed, 9, 20) for seed in range(3)]:
            for pins in good_pins(order, 25):
                fitting = fits_tried(order, pins)
                worse = {}
                for item in range(order[0]):
                    yes = len([lower for lower in fitting if item in lower])
                    if 0 < yes < len(fitting):
                        worse[item] = max(yes, len(fitting) - yes)
                best = [item for item in worse if worse[item] == min(worse.values())]
                self.assertEqual(best_ask(order, pins), min(best, default=None))
                ties += len(best) > 1
        self.assertGreater(ties, 50)
        self.assertEqual((best_ask((0, ()), FREE), best_ask(ORDER, ((2,), (3,)))), (None, None))
        self.assertEqual((best_ask((20, ()), FREE), best_ask((20, ()), ((0,), (1,)))), (0, 2))
        chain = (20, tuple((item, item + 1) for item in range(19)))
        self.assertEqual((best_ask(chain, FREE), best_ask(chain, ((9,), ()))), (9, 14))
        self.assertEqual(best_ask((3, ((0, 2), (1, 2))), FREE), 0)
        ring = (20, tuple(sorted((low, 10 + high) for low in range(10) for high in (low, (low + 1) % 10))))
        self.assertEqual(best_ask(ring, FREE), 0)

    def test_least_depths(self):
        deep = 0
        for order in small_orders() + [some_order(seed, 8, 30) for seed in range(3)]:
            for pins in good_pins(order, 14):
                if len(fits_tried(order, pins)) > 60:
                    continue
                depth = fewest_asks(order, pins)
                self.assertEqual(depth, depth_tried(order, pins))
                tree = ask_tree(order, pins)
                self.assertEqual(look_at(self, order, pins, tree), depth)
                self.assertEqual(check_asks(order, pins, tree), depth)
                self.assertGreaterEqual(2 ** depth, how_many(order, pins))
                deep += depth > 3
        self.assertGreater(deep, 20)

    def test_rows_and_loose_ones(self):
        for many in range(9):
            loose, row = (many, ()), (many, tuple((item, item + 1) for item in range(many - 1)))
            self.assertEqual(fewest_asks(loose, FREE), many)
            self.assertEqual(fewest_asks(row, FREE), many.bit_length())
            self.assertEqual(check_asks(row, FREE, ask_tree(row, FREE)), many.bit_length())

    def test_eight_and_nine_open_items(self):
        for many, call in itertools.product((8, 9, 20), (fewest_asks, ask_tree)):
            for order in ((many, ()), (many, tuple((item, item + 1) for item in range(many - 1)))):
                if many == 8:
                    self.assertIsNone(raised(call, order, FREE)[0])
                else:
                    self.assertEqual(raised(call, order, FREE), ("TooMany", {"most": 8}))
        # It hangs on the open ones alone.
        self.assertEqual(fewest_asks((20, ()), (tuple(range(5)), tuple(range(13, 20)))), 8)
        self.assertEqual(raised(fewest_asks, (20, ()), (tuple(range(4)), tuple(range(13, 20)))), ("TooMany", {"most": 8}))
        chain = (20, tuple((item, item + 1) for item in range(19)))
        self.assertEqual(fewest_asks(chain, ((5,), (14,))), 4)
        self.assertEqual(raised(ask_tree, chain, ((4,), (14,))), ("TooMany", {"most": 8}))
        # Others ask as often as they want.
        row = (9, tuple((item, item + 1) for item in range(8)))
        tree = ("is", tuple(range(9)))
        for item in range(9):
            tree = ("ask", 8 - item, tree, ("is", tuple(range(8 - item))))
        self.assertEqual(check_asks(row, FREE, tree), 9)

    def test_any_tree_that_holds(self):
        counted = 0
        for order, pins in (((3, ()), FREE), ((3, ((0, 2),)), FREE), ((3, ((0, 1), (1, 2))), FREE), ((5, ((0, 2), (1, 3))), ((0,), (3,)))):
            trees = list(all_trees(order, pins))
            for tree, depth in trees:
                self.assertEqual(check_asks(order, pins, tree), depth)
            self.assertEqual(min(depth for _, depth in trees), fewest_asks(order, pins))
            counted += len(trees)
        self.assertGreater(counted, 20)

    def test_edges(self):
        for order, pins, lower in (((0, ()), FREE, ()), (ORDER, ((2,), (3,)), (0, 1, 2)), (ORDER, ((), (0, 3)), ())):
            self.assertEqual((fewest_asks(order, pins), ask_tree(order, pins)), (0, ("is", lower)))
            self.assertEqual(check_asks(order, pins, ("is", lower)), 0)

    def test_bent_trees(self):
        order, end = (2, ((0, 1),)), ("is", ())
        right = ("ask", 0, ("ask", 1, ("is", (0, 1)), ("is", (0,))), ("is", ()))
        self.assertEqual(check_asks(order, FREE, right), 2)
        self.assertEqual(check_asks(order, FREE, ("ask", 1, ("is", (0, 1)), ("ask", 0, ("is", (0,)), ("is", ())))), 2)
        for value in junk() + [None, (), ("is",), ("is", (), 0), ["is", ()], ("ask", 0, end), ("ask", 0, end, end, end), ("as", ()), (None, ()), (Same(), ())]:
            for paper in (value, ("ask", 9, value, end), ("ask", 9, end, value), ("ask", 0, ("ask", 0, end, value), end)):
                self.assertEqual(raised(check_asks, order, FREE, paper), bad("form"), paper)
        for value in junk() + [None, 2, -1, 0.5, "0", (0,), [0]]:
            if value.__class__ is not float:
                self.assertEqual(raised(check_asks, order, FREE, ("ask", value, end, end)), bad("ask"), value)
                self.assertEqual(raised(check_asks, order, FREE, ("ask", 0, ("ask", value, end, end), right)), bad("ask"), value)
        for value in junk() + [None, (0,), (0, 1), [0], (1,), 0]:
            self.assertEqual(raised(check_asks, order, ((), (0,)), ("is", value)), bad("is"), value)
            self.assertEqual(raised(check_asks, order, FREE, ("is", value)), bad("is"), value)
        for paper, word in (
            (("is", ()), "is"), (("ask", 0, ("is", (0, 1)), ("is", ())), "is"), (("ask", 1, ("is", (0, 1)), ("is", ())), "is"),
            # Each ahead of those within it, these in turn.
            (("ask", 2, ("is", None), ("is", None)), "ask"), (("ask", 0, ("ask", 0, ("is", 0), end), ("is", 7)), "ask"),
            (("ask", 0, ("is", (0,)), ("ask", 5, end, end)), "is"), (("ask", 0, ("ask", 1, ("is", (0, 1)), ("is", (1,))), ("ask", 1, end, end)), "is"),
            # What is sure by what was asked is not asked for again.
            (("ask", 0, right[2], ("ask", 1, end, end)), "ask"), (("ask", 1, ("ask", 0, end, end), end), "ask"),
            (("ask", 0, right[2], ("is", (0,))), "is"), (("ask", 0, ("ask", 1, ("is", (0,)), ("is", (0, 1))), end), "is"),
        ):
            self.assertEqual(raised(check_asks, order, FREE, paper), bad(word), paper)
        self.assertEqual(raised(check_asks, order, ((0,), ()), right), bad("ask"))
        self.assertEqual(check_asks(order, ((0,), ()), right[2]), 1)

    def test_wrong_arguments(self):
        calls = ((best_ask, []), (fewest_asks, []), (ask_tree, []), (check_asks, [Thing()]))
        for value in junk() + [None, (21, ()), (2, ((1, 0),)), [2, ()]]:
            for call, more in calls:
                self.assertEqual(raised(call, value, Thing(), *more)[0], "BadOrder", value)
        clashing = [pins for pins in some_pins(ORDER, 30) if not fits_tried(ORDER, pins)]
        for value in junk() + BAD_PINS + clashing:
            for call, more in calls:
                kind, fields = raised(call, ORDER, value, *more)
                self.assertEqual(kind, "BadPins", value)
                self.assertIs(fields["given"], value)
        # Ahead of too many open items.
        self.assertEqual(raised(fewest_asks, (20, ()), ((0,), (0,)))[0], "BadPins")

    def test_what_is_told_is_plain(self):
        order, pins = strange(ORDER), strange(((0,), ()))
        tree = ask_tree(order, pins)
        self.assertTrue(all(is_plain(each) for each in (tree, best_ask(order, pins), fewest_asks(order, pins))))
        self.assertTrue(is_plain(check_asks(order, pins, strange(tree))))


if __name__ == "__main__":
    unittest.main()
