import unittest

from helper import Same, Thing, ahead_pairs, closed, is_plain, junk, lowers, raised, small_orders, some_order, strange
from turnsall.countpapers import check_count, count_paper
from turnsall.counts import how_many

ORDER = (4, ((0, 1), (1, 2)))
CHAIN = (20, tuple((item, item + 1) for item in range(19)))
LOOSE, ROW = ("loose",), ("row",)
# Just what ORDER needs: a row of three beside an item.
APART = ("apart", ((0, 1, 2), (3,)), (ROW, LOOSE))


def bad(word):
    return "BadPaper", {"part": word}


def narrowed_tried(order, lot):
    ahead = ahead_pairs(order)
    return closed(len(lot), {(lot.index(a), lot.index(b)) for a, b in ahead if a in lot and b in lot})


def shown_tried(order, paper):
    """What a paper shows; the word of the first one that is not as told. It has the form."""
    many, ahead = order[0], ahead_pairs(order)
    word = paper[0]
    if word == "loose":
        return 2 ** many if not ahead else word
    if word == "row":
        return many + 1 if len(ahead) == many * (many - 1) // 2 else word
    if word == "apart":
        items = [item for lot in paper[1] for item in lot]
        home = {item: spot for spot, lot in enumerate(paper[1]) for item in lot}
        good = sorted(items) == list(range(many)) and all(lot and sorted(lot) == list(lot) for lot in paper[1])
        if not good or any(home[a] != home[b] for a, b in ahead):
            return word
        kids, shown = list(zip(paper[1], paper[2])), 1
        for lot, kid in kids:
            one = shown_tried(narrowed_tried(order, lot), kid)
            if isinstance(one, str):
                return one
            shown *= one
        return shown
    if not 0 <= paper[1] < many:
        return word
    shown = 0
    for kid, gone in ((paper[2], {a for a, b in ahead if b == paper[1]}), (paper[3], {b for a, b in ahead if a == paper[1]})):
        one = shown_tried(narrowed_tried(order, [item for item in range(many) if item != paper[1] and item not in gone]), kid)
        if isinstance(one, str):
            return one
        shown += one
    return shown


def all_papers(deep):
    """Papers of many forms on few items, that hold or do not."""
    papers = [LOOSE, ROW]
    for _ in range(deep):
        kids = papers[:6]
        papers = [LOOSE, ROW] + [("item", item, a, b) for item in (0, 1, 2, 3) for a in kids for b in kids]
        for lots in (((0,), (1,)), ((0, 1), (2,)), ((0,), (1, 2)), ((1,), (0, 2)), ((1, 0), (2,)), ((0, 1), (1, 2)), ((), (0, 1, 2))):
            papers += [("apart", lots, (a, b)) for a in kids[:3] for b in kids[:3]]
        papers.append(("apart", ((0,), (1,), (2,)), (LOOSE, ROW, LOOSE)))
    return papers


class Papers(unittest.TestCase):

    def test_told_papers_hold(self):
        words = set()

        def gather(paper):
            words.add(paper[0])
            for kid in paper[2] if paper[0] == "apart" else paper[2:]:
                gather(kid)

        for order in small_orders() + [some_order(seed, 9, 20) for seed in range(4)]:
            paper = count_paper(order)
            gather(paper)
            self.assertEqual(check_count(order, paper), len(lowers(order)))
            self.assertEqual(shown_tried(order, paper), len(lowers(order)))
        self.assertEqual(words, {"loose", "row", "apart", "item"})
        for order in [some_order(seed, 20, 12) for seed in range(4)] + [CHAIN, (20, ())]:
            self.assertEqual(check_count(order, count_paper(order)), how_many(order, ((), ())))

    def test_great_papers_can_be_passed_on(self):
        """At most 60 deep, with at most 20,000 things in all, however knotted the ORDER is."""

        def measure(thing):
            if not isinstance(thing, tuple):
                return 0, 0
            parts = [measure(each) for each in thing]
            return 1 + max([deep for deep, _ in parts], default=0), len(thing) + sum(many for _, many in parts)

        rings = [(20, tuple(sorted((low, 10 + (low + step) % 10) for low in range(10) for step in steps)))
                 for steps in ((0, 1), (0, 1, 3), (0, 3), (0, 1, 3, 7))]
        grid = (20, tuple(sorted([(i, i + 1) for i in range(19) if (i + 1) % 5] + [(i, i + 5) for i in range(15)])))
        for order in rings + [grid] + [some_order(seed, 20, 5 * (seed % 6) + 5) for seed in range(18)]:
            deep, many = measure(count_paper(order))
            self.assertLess(deep, 50)
            self.assertLess(many, 5000)

    def test_all_papers_of_few_items(self):
        held = 0
        orders = [(0, ()), (1, ()), (2, ()), (2, ((0, 1),)), (3, ()), (3, ((0, 1),)), (3, ((0, 2),)), (3, ((0, 1), (1, 2))),
                  (3, ((0, 1), (0, 2))), (3, ((0, 2), (1, 2))), (3, ((0, 1), (0, 2), (1, 2)))]
        for order in orders:
            for paper in all_papers(2):
                due = shown_tried(order, paper)
                told = raised(check_count, order, paper)
                self.assertEqual(told, bad(due) if isinstance(due, str) else (None, due), (order, paper))
                if not isinstance(due, str):
                    held += 1
                    self.assertEqual(due, len(lowers(order)))
        self.assertGreater(held, 40)

    def test_edges(self):
        for order, shown in (((0, ()), 1), ((1, ()), 2)):
            self.assertEqual([check_count(order, paper) for paper in (LOOSE, ROW)], [shown, shown])
        self.assertEqual(raised(check_count, (0, ()), ("item", 0, LOOSE, LOOSE)), bad("item"))
        self.assertEqual(raised(check_count, (0, ()), ("apart", ((), ()), (LOOSE, LOOSE))), bad("apart"))
        self.assertEqual((check_count((20, ()), LOOSE), check_count(CHAIN, ROW)), (2 ** 20, 21))
        self.assertEqual((raised(check_count, (20, ()), ROW), raised(check_count, CHAIN, LOOSE)), (bad("row"), bad("loose")))
        # Neither a row nor loose.
        self.assertEqual((raised(check_count, ORDER, ROW), raised(check_count, ORDER, LOOSE)), (bad("row"), bad("loose")))
        self.assertEqual(check_count(ORDER, APART), 8)
        # Others than the one that is told hold, too.
        self.assertEqual(check_count(ORDER, ("apart", ((3,), (0, 1, 2)), (ROW, ROW))), 8)
        self.assertEqual(check_count(ORDER, ("item", 3, ROW, ROW)), 8)
        small = ("apart", ((0,), (1,)), (LOOSE, ROW))
        self.assertEqual(check_count(ORDER, ("item", 1, LOOSE, small)), 8)
        self.assertEqual(check_count((3, ()), ("apart", ((0,), (1,), (2,)), (LOOSE, ROW, LOOSE))), 8)
        # As LOTS are numbered anew.
        order = (4, ((1, 3),))
        self.assertEqual(check_count(order, ("apart", ((1, 3), (0, 2)), (("item", 0, LOOSE, LOOSE), LOOSE))), 12)
        self.assertEqual(raised(check_count, order, ("apart", ((1, 3), (0, 2)), (("item", 2, LOOSE, LOOSE), LOOSE))), bad("item"))

    def test_form_of_all_comes_first(self):
        wrong = ("loose", 0)
        for paper in (
            ("item", 99, LOOSE, wrong), ("item", 99, wrong, LOOSE), ("item", None, LOOSE, ("item", 0, LOOSE, ("apart", ((), ()), (LOOSE, None)))),
            ("apart", None, (LOOSE, LOOSE)), ("apart", ((0,), (1,)), None), ("apart", ((0,),), (LOOSE,)), ("apart", (), ()),
            ("apart", ((0,), (1,)), (LOOSE,)), ("apart", ((0,),), (LOOSE, LOOSE)), ("apart", [(0,), (1,)], (LOOSE, LOOSE)),
            ("apart", ((0,), (1,)), [LOOSE, LOOSE]), ("apart", ((0,), (1,), (2,)), (LOOSE, LOOSE)), ("apart", ((0,), (1,)), (LOOSE, wrong)),
            ("item", 0, LOOSE), ("item", 0, LOOSE, LOOSE, LOOSE), ("row", ()), ("apart", ((0,), (1,))), ("apart", "ab", "cd"), "loose", ["loose"],
            ("lose",), (LOOSE,), (None,), (Same(),), ((),), (),
        ):
            self.assertEqual(raised(check_count, ORDER, paper), bad("form"), paper)
        for value in junk() + [None, 0]:
            for paper in (value, ("item", 0, value, LOOSE), ("item", 3, ROW, value), ("apart", ((0, 1, 2), (3,)), (ROW, value))):
                self.assertEqual(raised(check_count, ORDER, paper), bad("form"), paper)
            # Whatever stands in LOTS, and for the item.
            for paper in (("apart", (value, (0,)), (LOOSE, LOOSE)), ("apart", ((0, 1, 2), value), (ROW, LOOSE))):
                self.assertEqual(raised(check_count, ORDER, paper), bad("apart"), paper)
            if value.__class__ is not int or value != 0:
                self.assertEqual(raised(check_count, ORDER, ("item", value, LOOSE, LOOSE)), bad("item"), paper)

    def test_first_that_is_not_as_told(self):
        apart = ("apart", ((0,), (1,)), (LOOSE, LOOSE))
        for paper, word in (
            # Each ahead of those within it.
            (("item", 4, ROW, LOOSE), "item"), (("item", -1, ROW, LOOSE), "item"), (("apart", ((0, 1), (2, 3)), (("item", 9, ROW, ROW), ROW)), "apart"),
            # These in turn, each with all that is within it.
            (("item", 3, ("item", 0, LOOSE, apart), LOOSE), "loose"), (("item", 3, ("item", 0, ROW, ("item", 7, ROW, ROW)), LOOSE), "item"),
            (("item", 3, ROW, LOOSE), "loose"), (("item", 0, LOOSE, ROW), "loose"),
            (("item", 3, ("item", 0, apart, ROW), LOOSE), "apart"), (("apart", ((0, 1, 2), (3,)), (ROW, ("item", 1, ROW, ROW))), "item"),
            (("apart", ((0, 1, 2), (3,)), (LOOSE, ("item", 1, ROW, ROW))), "loose"),
            # Not all items, one twice, one ahead of one of another LOT, none in a LOT, not ascending, not there.
            (("apart", ((0, 1, 2), ()), (ROW, LOOSE)), "apart"), (("apart", ((0, 1), (3,)), (ROW, LOOSE)), "apart"),
            (("apart", ((0, 1, 2), (2, 3)), (ROW, LOOSE)), "apart"), (("apart", ((0, 1), (2, 3)), (ROW, LOOSE)), "apart"),
            (("apart", ((0, 2, 1), (3,)), (ROW, LOOSE)), "apart"), (("apart", ((0, 1, 2), (4,)), (ROW, LOOSE)), "apart"),
            (("apart", ((0, 1, 2), (3,), ()), (ROW, LOOSE, LOOSE)), "apart"), (("apart", ((0, 2), (1, 3)), (ROW, LOOSE)), "apart"),
        ):
            self.assertEqual(raised(check_count, ORDER, paper), bad(word), paper)
        # An item ahead of another one by a third one alone.
        row = (3, ((0, 1), (1, 2)))
        self.assertEqual(raised(check_count, row, ("apart", ((0, 2), (1,)), (ROW, ROW))), bad("apart"))

    def test_wrong_orders(self):
        for value in junk() + [None, (21, ()), (2, ((1, 0),)), [2, ()]]:
            self.assertEqual(raised(count_paper, value)[0], "BadOrder")
            self.assertEqual(raised(check_count, value, Thing())[0], "BadOrder")

    def test_what_is_told_is_plain(self):
        self.assertTrue(is_plain(count_paper(strange(ORDER))))
        self.assertTrue(is_plain(check_count(strange(ORDER), strange(APART))))


if __name__ == "__main__":
    unittest.main()
