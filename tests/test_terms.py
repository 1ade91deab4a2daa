import itertools
import unittest

from helper import Same, Thing, is_plain, junk, raised, strange
from termtrying import FLOOR, NET, PLAN, SINGLE, STILL, deep_in, kids, order_tried, terms, tried, words_in
from turnsall.lowers import all_lowers
from turnsall.sums import about, beside, narrowed
from turnsall.terms import is_term_solution, kids_of, lower_by, need_term, order_by, solution_by
from turnsall.worlds import all_solutions, is_solution, lower_of, order_of

W = ("world", PLAN)
ONE = ("world", SINGLE)
TEN = ("world", ("plan", ((0, 10),), ()))
TWENTY = ("world", ("plan", ((0, 20),), ()))
CALLS = ((need_term, []), (order_by, []), (kids_of, []), (is_term_solution, [Thing()]), (lower_by, [Thing()]), (solution_by, [Thing()]))


def bad(*path):
    return "BadTerm", {"path": path}


def abouts(many, term):
    """The TERM, turned about so often."""
    for _ in range(many):
        term = ("about", term)
    return term


def spread(many):
    """A TERM of just so many words, of which the last one is a world of its own path; an odd number."""
    row = [("world", STILL)] * ((many + 1) // 2)
    while len(row) > 1:
        row = [("beside", row[spot], row[spot + 1]) for spot in range(0, len(row) - 1, 2)] + row[len(row) & ~1:]
    return row[0]


class Terms(unittest.TestCase):

    def test_against_trying_out(self):
        seen = {}
        for term in terms(110):
            self.assertIs(need_term(term), term)
            (many, _), solutions = tried(term)
            order = order_by(term)
            self.assertEqual(order, order_tried(term))
            self.assertEqual(kids_of(term), kids(term))
            self.assertEqual(sorted(solutions.values()), list(all_lowers(order)))
            some = list(solutions.items())
            for solution, lower in some[:12] + some[-4:]:
                self.assertIs(is_term_solution(term, solution), True)
                self.assertEqual(lower_by(term, solution), lower)
                self.assertEqual(solution_by(term, lower), solution)
            if term[0] != "world":
                everything = tried(term[1])[1] if term[0] == "pinned" else {}
                for solution in list(everything)[:30]:
                    self.assertIs(is_term_solution(term, solution), solution in solutions)
            seen[term[0]] = seen.get(term[0], 0) + (many > 1)
        self.assertGreater(min(seen.values()), 2, seen)

    def test_worlds_themselves(self):
        for world in (PLAN, FLOOR, NET):
            term = ("world", world)
            self.assertEqual((order_by(term), kids_of(term)), (order_of(world), ()))
            for solution in all_solutions(world):
                self.assertEqual((lower_by(term, solution), is_term_solution(term, solution)), (lower_of(world, solution), is_solution(world, solution)))

    def test_facts(self):
        for term in terms(60):
            twice = ("about", ("about", term))
            order, (_, solutions) = order_by(term), tried(term)
            self.assertEqual(order_by(twice), order)
            self.assertEqual(order_by(("about", term)), about(order))
            for solution, lower in list(solutions.items())[:10]:
                self.assertEqual((lower_by(twice, solution), is_term_solution(twice, solution)), (lower, True))
                # The SOLUTION with () has all items turned about.
                if lower == ():
                    self.assertEqual(lower_by(("about", term), solution), tuple(range(order[0])))
        small = [term for term in terms(60) if order_by(term)[0] < 9 and words_in(term) < 5 and deep_in(term) < 5][:14]
        for first, second in itertools.product(small, repeat=2):
            self.assertEqual(order_by(("about", ("beside", first, second))), order_by(("beside", ("about", second), ("about", first))))
            self.assertEqual(order_by(("beside", first, second)), beside(order_by(first), order_by(second)))
        for term in terms(90):
            if term[0] == "pinned":
                whole = order_by(term[1])
                held = list(tried(term)[1])
                lowers = [set(lower_by(term[1], solution)) for solution in held]
                free = [item for item in range(whole[0]) if len({item in lower for lower in lowers}) == 2]
                pairs = tuple((free.index(a), free.index(b)) for a, b in whole[1] if a in free and b in free)
                self.assertEqual(order_by(term), (len(free), pairs))
                self.assertEqual(order_by(term), narrowed(whole, tuple(free)))

    def test_nothing_open(self):
        term = ("pinned", W, (0, 1), (2,))
        self.assertEqual((order_by(term), solution_by(term, ()), lower_by(term, (2, 0))), ((0, ()), (2, 0), ()))
        self.assertEqual([is_term_solution(term, each) for each in ((2, 0), (1, 0), (2, 1))], [True, False, False])
        self.assertEqual(raised(lower_by, term, (1, 0)), ("BadSolution", {"given": (1, 0)}))
        self.assertEqual(order_by(("pinned", ("world", STILL), (), ())), (0, ()))
        self.assertEqual(raised(need_term, ("pinned", ("world", STILL), (0,), ())), bad())

    def test_twenty_and_twenty_one_items(self):
        self.assertEqual(order_by(("beside", TEN, TEN))[0], 20)
        self.assertEqual(order_by(("beside", TWENTY, ("world", STILL)))[0], 20)
        self.assertEqual(raised(order_by, ("beside", TWENTY, ONE)), bad())
        self.assertEqual(raised(order_by, ("beside", ("beside", TEN, TEN), ONE)), bad())
        # Refused where it is too great, though it would be less as a whole.
        self.assertEqual(raised(order_by, ("pinned", ("about", ("beside", TWENTY, ONE)), tuple(range(9)), ())), bad(1, 1))
        self.assertEqual(order_by(("beside", ("pinned", TWENTY, (4,), ()), ("pinned", TWENTY, (13,), (19,))))[0], 20)
        self.assertEqual(raised(order_by, ("world", ("plan", ((0, 21),), ()))), bad())

    def test_twelve_and_thirteen_words(self):
        for term in (spread(11), ("about", spread(11))):
            self.assertIs(need_term(term), term)
        for term in (spread(13), ("beside", ("about", spread(9)), ("about", ONE)), ("beside", ("about", ONE), ("about", spread(9)))):
            self.assertEqual(raised(need_term, term), bad())
        eleven = spread(9)
        self.assertIs(need_term(("beside", ("about", eleven), ONE))[2], ONE)
        # The 13th word, whatever it is; the 12th one by its own path.
        for value in junk() + [None, 0, W]:
            self.assertEqual(raised(need_term, ("beside", ("about", ("about", spread(9))), value)), bad())
            if value is not W:
                self.assertEqual(raised(need_term, ("beside", ("about", spread(9)), value)), bad(2))
        # What the walk comes to ahead of it is refused ahead of it.
        self.assertEqual(raised(need_term, ("beside", ("about", 7), spread(13))), bad(1, 1))
        self.assertEqual(raised(need_term, ("beside", spread(13), ("about", 7))), bad())

    def test_six_and_seven_deep(self):
        self.assertEqual(order_by(abouts(5, W)), order_by(("about", W)))
        for value in junk() + [None, 0, W, ()]:
            self.assertEqual(raised(need_term, abouts(6, value)), bad())
            if value is not W:
                self.assertEqual(raised(need_term, abouts(5, value)), bad(1, 1, 1, 1, 1))
        self.assertEqual(raised(need_term, ("beside", abouts(4, 0), abouts(6, W))), bad(1, 1, 1, 1, 1))
        self.assertEqual(raised(need_term, ("beside", abouts(5, 0), abouts(4, 0))), bad())

    def test_forms(self):
        bad_world = ("plan", ((0, 1), (5, 6)), ((0, 1, 3),))
        for value in junk() + [
            None, (), ("world",), ("world", PLAN, PLAN), ["world", PLAN], ("worlds", PLAN), ("beside", W), ("beside", W, W, W), ("about",),
            ("about", W, W), ("pinned", W), ("pinned", W, ()), ("pinned", W, (), (), ()), (("world",), PLAN), (None, PLAN), (Same(), PLAN), PLAN,
            ("world", bad_world), ("world", W), ("world", ("plan", ((0, 21),), ())), ("world", None), ("world", Thing()), "world",
        ]:
            for term, path in ((value, ()), (("about", value), (1,)), (("beside", W, value), (2,)), (("beside", value, W), (1,)),
                               (("pinned", ("about", value), (), ()), (1, 1)), (("beside", W, ("beside", W, ("about", value))), (2, 2, 1))):
                for call, more in CALLS:
                    self.assertEqual(raised(call, term, *more), bad(*path), term)
        for lot in junk() + [None, 0, "01", [0], (0, 0), (1, 0), (-1,), (None,), (True,), ((0,),), {0: 1}, (0, "1")]:
            # LOTS of items that are not there are refused by the second walk, also as told here.
            for term, path in ((("pinned", W, lot, ()), ()), (("pinned", W, (), lot), ()), (("about", ("pinned", W, lot, lot)), (1,))):
                self.assertEqual(raised(need_term, term), bad(*path), lot)

    def test_items_that_are_not_there(self):
        for lot in ((4,), (0, 4), (20,), (10 ** 40,), tuple(range(5))):
            for term, path in ((("pinned", W, lot, ()), ()), (("pinned", W, (), lot), ()), (("about", ("pinned", W, lot, ())), (1,)),
                               (("beside", W, ("pinned", ("about", W), (), lot)), (2,))):
                self.assertEqual(raised(need_term, term), bad(*path), lot)
        # As many as are open within.
        self.assertEqual(order_by(("pinned", ("pinned", W, (0,), ()), (2,), ())), (0, ()))
        self.assertEqual(raised(need_term, ("pinned", ("pinned", W, (0,), ()), (3,), ())), bad())

    def test_pins_that_clash(self):
        for pins in (((0,), (0,)), ((3,), (0,)), ((1, 3), (2,)), ((2,), (0, 1))):
            self.assertEqual(raised(need_term, ("pinned", W) + pins), bad())
            self.assertEqual(raised(need_term, ("about", ("about", ("pinned", W) + pins))), bad(1, 1))
        self.assertEqual(raised(need_term, ("pinned", ("about", W), (0,), (3,)))[0], None)

    def test_two_faults(self):
        clash, away, great = ("pinned", W, (0,), (0,)), ("pinned", W, (9,), ()), ("beside", TWENTY, ONE)
        for term, path in (
            # In the first walk the whole ahead of what stands in it, this from left to right.
            (("beside", 1, 2), (1,)), (("beside", ("about", 1), 2), (1, 1)), (("beside", W, ("pinned", 3, (), ())), (2, 1)),
            (("worlds", 1, 2), ()), (("beside", ("beside", W, 5), 6), (1, 2)), (("about", ("pinned", 1)), (1,)), (("about", ("about", W, 1), 1), ()),
            # IN, OUT as things of its own: ahead of the TERM that stands in it.
            (("pinned", 1, 2, 3), ()), (("pinned", 1, (), 3), ()), (("pinned", ("about", 1), (1, 0), ()), ()), (("beside", ("pinned", W, (), None), 1), (1,)),
            (("pinned", ("pinned", W, None, ()), None, ()), ()), (("about", ("pinned", ("pinned", W, None, ()), (), 0)), (1,)), (("pinned", 1, (), ()), (1,)),
            (("pinned", abouts(5, W), None, ()), ()), (("beside", 1, ("pinned", W, None, ())), (1,)), (("beside", ("pinned", 1, (), ()), ("pinned", W, 1, ())), (1, 1)),
            # The first walk to its end ahead of the second one.
            (("beside", clash, ("pinned", W, (-1,), ())), (2,)), (("beside", clash, ("pinned", W, (), ("a",))), (2,)), (("beside", away, ("pinned", W, (), (-2, 1))), (2,)),
            (("beside", clash, 1), (2,)), (("beside", away, ("about", ("world", 0))), (2, 1)), (("beside", great, ("pinned", W, (), (1, 0))), (2,)),
            (("pinned", clash, (), (1, 0)), ()), (("beside", clash, spread(13)), ()), (("beside", clash, abouts(6, W)), ()),
            # In the second one what stands in it ahead of the whole, from left to right.
            (("beside", away, clash), (1,)), (("beside", ("about", clash), away), (1, 1)), (("beside", W, clash), (2,)), (("pinned", clash, (), (9,)), (1,)),
            (("pinned", ("about", away), (0,), (0,)), (1, 1)), (("beside", great, clash), (1,)), (("beside", TWENTY, clash), (2,)),
            (("beside", TWENTY, great), (2,)), (("beside", ("pinned", great, (), ()), away), (1, 1)), (("beside", ("beside", ONE, clash), away), (1, 2)),
        ):
            for call, more in CALLS:
                self.assertEqual(raised(call, term, *more), bad(*path), term)

    def test_wrong_solutions_and_lowers(self):
        term = ("pinned", ("beside", W, ONE), (0,), ())
        self.assertEqual((order_by(term)[0], is_term_solution(term, ((1, 0), (1,)))), (4, True))
        for value in junk() + [None, (), ((1, 0),), ((1, 0), (1,), ()), ((0, 0), (1,)), [(1, 0), (1,)], ((1, 0), (2,)), ((1, 0), [1]), ((1, 0), (True,)), ((1, 0), None)]:
            self.assertIs(is_term_solution(term, value), False, value)
            kind, fields = raised(lower_by, term, value)
            self.assertEqual(kind, "BadSolution", value)
            self.assertIs(fields["given"], value)
        both = ("beside", W, ("about", ONE))
        for value, good in ((((1, 0), (1,)), True), (((0, 1), (1,)), False), (((1, 3), (0,)), False), (((1, 0), (2,)), False), ((None, (1,)), False), (((1, 0), None), False)):
            self.assertIs(is_term_solution(both, value), good)
            self.assertEqual(raised(lower_by, both, value)[0], None if good else "BadSolution")
        for value in junk() + [None, 0, (4,), (1, 0), (0, 0), [0], (True,), (None,), (2,), "0"]:
            kind, fields = raised(solution_by, term, value)
            self.assertEqual(kind, "BadLower", value)
            self.assertIs(fields["given"], value)

    def test_what_is_told_is_plain(self):
        term = ("pinned", ("beside", ("about", W), ("world", FLOOR)), (0,), ())
        odd = strange(term)
        self.assertIs(need_term(odd), odd)
        found = [order_by(odd), kids_of(odd), lower_by(odd, strange(solution_by(term, (0,)))), solution_by(odd, strange((0,)))]
        self.assertEqual(found, [order_by(term), kids_of(term), (0,), solution_by(term, (0,))])
        self.assertTrue(is_plain(tuple(found)))


if __name__ == "__main__":
    unittest.main()
