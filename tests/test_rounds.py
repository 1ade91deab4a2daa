import itertools
import unittest

from helper import Same, Thing, ahead_pairs, is_plain, junk, lots, lowers, raised, small_orders, strange
from turnsall.rounds import check_rounds, fewest_rounds, is_round, rounds_paper

ORDER = (4, ((0, 1), (1, 2)))
CHAIN = (20, tuple((item, item + 1) for item in range(19)))
WHOLE = tuple(range(20))
BAD_LOWERS = [None, True, 0, "0", [0], (True,), (None,), (0, 0), (1, 0), (4,), (-1,), ((0,),), Thing(), (Same(),), {0}, (1,), (0, 2)]


def changed(lower, lot):
    return tuple(sorted(set(lower) ^ set(lot)))


def rounds_at(order, lower):
    """All ROUNDS at the LOWER, by trying out all LOTS."""
    ahead, right = ahead_pairs(order), lowers(order)
    found = []
    for lot in lots(order[0])[1:]:
        single = all(changed(lower, (item,)) in right for item in lot)
        if single and not any((a, b) in ahead for a, b in itertools.permutations(lot, 2)):
            found.append(lot)
    return found


def layers(order, lower):
    """How many ROUNDS lead to each LOWER at the least, layer by layer."""
    found, last = {lower: 0}, [lower]
    while last:
        coming = []
        for each in last:
            for lot in rounds_at(order, each):
                goal = changed(each, lot)
                if goal not in found:
                    found[goal] = found[each] + 1
                    coming.append(goal)
        last = coming
    return found


def leads_to(order, lower, told):
    for lot in told:
        if lot not in rounds_at(order, lower):
            return None
        lower = changed(lower, lot)
    return lower


def shows(order, first, second, most, chain):
    ahead = ahead_pairs(order)
    alone = [set(first) - set(second), set(second) - set(first)]
    return len(chain) > most and all(pair in ahead for pair in zip(chain, chain[1:])) and any(set(chain) <= lot for lot in alone)


class Rounds(unittest.TestCase):

    def test_rounds(self):
        for order in small_orders()[:18]:
            for lower in lowers(order)[::3]:
                right = rounds_at(order, lower)
                for lot in lots(order[0]):
                    self.assertIs(is_round(order, lower, lot), lot in right)
                for value in junk() + [None, (), [0], (0, 0), (1, 0), (order[0],)]:
                    self.assertIs(is_round(order, lower, value), False, value)
        self.assertIs(is_round(ORDER, (0,), (0, 1)), False)
        self.assertIs(is_round(ORDER, (0,), (1, 3)), True)
        self.assertIs(is_round(ORDER, (0,), (3, 1)), False)

    def test_fewest_and_papers(self):
        for order in small_orders()[:20]:
            right = lowers(order)
            for first in right[::4]:
                fewest = layers(order, first)
                self.assertEqual(sorted(fewest), right)
                for second in right[::2]:
                    self.assertEqual(fewest_rounds(order, first, second), fewest[second])
                    for most in {0, 1, 2, fewest[second] - 1, fewest[second], 20} - {-1}:
                        word, told = rounds_paper(order, first, second, most)
                        self.assertEqual(word, "rounds" if fewest[second] <= most else "chain")
                        if word == "rounds":
                            self.assertLessEqual(len(told), most)
                            self.assertEqual(leads_to(order, first, told), second)
                        else:
                            self.assertTrue(shows(order, first, second, most, told))
                        self.assertEqual(check_rounds(order, first, second, most, (word, told)), word)

    def test_any_paper_that_holds(self):
        held = {"rounds": 0, "chain": 0}
        for order in [(3, ((0, 1),)), (3, ((0, 2), (1, 2))), (4, ((0, 1), (1, 2))), (3, ())]:
            right = lowers(order)
            ways = [()] + [(lot,) for lot in lots(order[0])] + list(itertools.product(lots(order[0]), repeat=2))
            for first, second in itertools.islice(itertools.product(right[::2], right[::-1]), 24):
                for most in (0, 1, 2):
                    for told in ways:
                        good = len(told) <= most and leads_to(order, first, told) == second
                        due = (None, "rounds") if good else ("BadPaper", {"part": "rounds"})
                        self.assertEqual(raised(check_rounds, order, first, second, most, ("rounds", told)), due)
                        held["rounds"] += good
                    for chain in lots(order[0]):
                        good = shows(order, first, second, most, chain)
                        due = (None, "chain") if good else ("BadPaper", {"part": "chain"})
                        self.assertEqual(raised(check_rounds, order, first, second, most, ("chain", chain)), due)
                        held["chain"] += good
        self.assertGreater(min(held.values()), 30, held)
        # Also more rounds than are needed, that go to and fro.
        self.assertEqual(check_rounds(ORDER, (), (0,), 3, ("rounds", ((3,), (0,), (3,)))), "rounds")
        self.assertEqual(raised(check_rounds, ORDER, (), (0,), 2, ("rounds", ((3,), (0,), (3,)))), ("BadPaper", {"part": "rounds"}))

    def test_ends(self):
        for order, lower in (((0, ()), ()), (ORDER, (0, 3)), (CHAIN, WHOLE)):
            self.assertEqual(fewest_rounds(order, lower, lower), 0)
            for most in (0, 20):
                self.assertEqual(rounds_paper(order, lower, lower, most), ("rounds", ()))
                self.assertEqual(raised(check_rounds, order, lower, lower, most, ("chain", ())), ("BadPaper", {"part": "chain"}))
        self.assertEqual(fewest_rounds(CHAIN, (), WHOLE), 20)
        self.assertEqual(rounds_paper(CHAIN, (), WHOLE, 20), ("rounds", tuple((item,) for item in WHOLE)))
        self.assertEqual(rounds_paper(CHAIN, WHOLE, (), 20), ("rounds", tuple((item,) for item in WHOLE[::-1])))
        self.assertEqual(rounds_paper(CHAIN, (), WHOLE, 19), ("chain", WHOLE))
        self.assertEqual(check_rounds(CHAIN, (), WHOLE, 19, ("chain", WHOLE)), "chain")
        self.assertEqual(raised(check_rounds, CHAIN, (), WHOLE, 20, ("chain", WHOLE)), ("BadPaper", {"part": "chain"}))
        self.assertEqual(check_rounds(CHAIN, (), WHOLE, 0, ("chain", (7, 9))), "chain")
        self.assertEqual(fewest_rounds((20, ()), (0, 1), (2, 3)), 1)
        self.assertEqual(rounds_paper((20, ()), (0, 1), (2, 3), 1), ("rounds", ((0, 1, 2, 3),)))
        self.assertEqual(rounds_paper((20, ()), (), WHOLE, 0)[0], "chain")

    def test_bent_papers(self):
        args = (ORDER, (3,), (0, 1), 1)
        self.assertEqual(check_rounds(*args, ("chain", (0, 1))), "chain")
        for paper in junk() + [None, ("chain",), ("chain", (0, 1), 0), ["chain", (0, 1)], ("chains", (0, 1)), (None, ()), (Same(), ()), ("rounds",)]:
            self.assertEqual(raised(check_rounds, *args, paper), ("BadPaper", {"part": "form"}), paper)
        for value in junk() + [None, (), [0, 1], (1, 0), (0, 0), (0, 3), (0, 1, 2), (0,), (0, True), (0, 1, Same())]:
            self.assertEqual(raised(check_rounds, *args, ("chain", value)), ("BadPaper", {"part": "chain"}), value)
        for value in junk() + [None, (), [(0, 3)], ((0, 3),), ([0, 3], (1,)), ((0, 3), None), ((0,), (1,)), ((0, 3), Thing())]:
            self.assertEqual(raised(check_rounds, *args[:3], 20, ("rounds", value)), ("BadPaper", {"part": "rounds"}), value)
        self.assertEqual(check_rounds(*args[:3], 2, ("rounds", ((0, 3), (1,)))), "rounds")
        self.assertEqual(check_rounds(*args[:3], 20, ("rounds", ((0,), (1,), (3,)))), "rounds")

    def test_wrong_arguments(self):
        calls = ((is_round, 0), (fewest_rounds, 1), (rounds_paper, 2), (check_rounds, 3))
        for value in junk() + [None, (21, ()), (2, ((1, 0),)), [2, ()]]:
            for call, many in calls:
                self.assertEqual(raised(call, value, *[Thing()] * (many + 2 if call is is_round else many + 1))[0], "BadOrder", value)
        for value in junk() + BAD_LOWERS:
            self.assertEqual(raised(is_round, ORDER, value, Thing())[0], "BadLower", value)
            for call, many in calls[1:]:
                for args in ((value, Thing()), ((0,), value)):
                    kind, fields = raised(call, ORDER, *args, *[Thing()] * (many - 1))
                    self.assertEqual(kind, "BadLower", value)
                    self.assertIs(fields["given"], value)
        for value in junk() + [None, 21, "1", (1,), [1]]:
            for call, more in ((rounds_paper, []), (check_rounds, [Thing()])):
                kind, fields = raised(call, ORDER, (), (0,), value, *more)
                self.assertEqual(kind, "BadNumber", value)
                self.assertIs(fields["given"], value)

    def test_what_is_told_is_plain(self):
        order, lower, goal = strange(ORDER), strange((0,)), strange((3,))
        told = [is_round(order, lower, goal), fewest_rounds(order, lower, goal), rounds_paper(order, lower, goal, strange(1))]
        told += [rounds_paper(order, lower, goal, strange(0)), check_rounds(order, lower, goal, strange(1), strange(told[2]))]
        self.assertTrue(all(is_plain(each) for each in told))


if __name__ == "__main__":
    unittest.main()
