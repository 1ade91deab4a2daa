import random
import re
import unittest

from helper import ahead_pairs, junk, raised
from termtrying import PLAN, STILL, order_tried, terms, tried
from texttrying import bad, fault_tried
from turnsall.judge import judged
from turnsall.texts import nest_text

W = nest_text(("world", PLAN))
NUMBER = re.compile(r"[1-9][0-9]{0,30}|0")
FORMS = {"many": "n", "turns": "n", "ahead": "nn", "solution": "t", "least": "t", "greatest": "t", "far": "ntt"}


def fault_in_saying(words):
    """The number of the first word of a SAYING that cannot stand there, None if all is well."""
    if words[0] not in FORMS:
        return 0
    spot = 1
    for kind in FORMS[words[0]]:
        if kind == "n":
            if spot == len(words) or not NUMBER.fullmatch(words[spot]):
                return spot
            spot += 1
            continue
        size = next((many for many in range(1, len(words) - spot + 1) if fault_tried(words[spot:spot + many]) is None), None)
        if size is None:
            return spot + (fault_tried(words[spot:]) if words[spot:] else 0)
        spot += size
    return None if spot == len(words) else spot


class Judged(unittest.TestCase):

    def test_against_trying_out(self):
        counts = {True: 0, False: 0}
        for seed, term in enumerate(terms(60)):
            dice = random.Random(seed)
            order, (_, solutions) = order_tried(term), tried(term)
            found = list(solutions)
            ahead = ahead_pairs(order)
            sayings, due = [], []
            for number in (len(found), len(found) + 1, 0, 1):
                sayings.append("many " + str(number))
                due.append(number == len(found))
            for number in (order[0], order[0] + 1, 0):
                sayings.append("turns " + str(number))
                due.append(number == order[0])
            for _ in range(12):
                a, b = dice.randrange(order[0] + 2), dice.randrange(order[0] + 2)
                sayings.append("ahead " + str(a) + " " + str(b))
                due.append((a, b) in ahead)
            values = [dice.choice(found) for _ in range(3)] + [0, None, "a", (), (0, 0), (found[0],)]
            values += [solution for solution in found if len(solutions[solution]) in (0, order[0])]
            for value in values:
                good = value in solutions
                for word, so in (("solution", good), ("least", good and solutions[value] == ()), ("greatest", good and len(solutions[value]) == order[0])):
                    sayings.append(word + " " + nest_text(value))
                    due.append(so)
                for other in dice.sample(values, 3):
                    far = len(set(solutions[value]) ^ set(solutions[other])) if good and other in solutions else None
                    for number in {far or 0, 1}:
                        sayings.append("far " + str(number) + " " + nest_text(value) + " " + nest_text(other))
                        due.append(number == far)
            told = judged("\n".join([nest_text(term)] + sayings))
            self.assertEqual(told, tuple(due), term)
            self.assertTrue(all(type(each) is bool for each in told))
            for each in told:
                counts[each] += 1
        self.assertGreater(min(counts.values()), 300)

    def test_by_hand(self):
        self.assertEqual(judged(W), ())
        sheet = "\n".join([W, "many 6", "turns 4", "ahead 0 3", "ahead 3 0", "ahead 1 1", "ahead 0 4", "ahead 99 0", "solution ( 1 1 )", "solution ( 0 1 )", "least ( 0 0 )",
                           "least ( 0 1 )", "greatest ( 2 2 )", "far 4 ( 0 0 ) ( 2 2 )", "far 0 ( 1 0 ) ( 1 0 )", "far 0 7 7", "many 6"])
        self.assertEqual(judged(sheet), (True, True, True, False, False, False, False, True, False, True, False, True, True, True, False, True))
        # With one SOLUTION alone it is the least and the greatest one.
        still = nest_text(("world", STILL))
        self.assertEqual(judged(still + "\nleast ( 7 )\ngreatest ( 7 )\nmany 1\nturns 0\nahead 0 0"), (True, True, True, True, False))
        # More SOLUTIONS than can be gone through.
        wide = nest_text(("world", ("plan", ((0, 1),) * 12, ())))
        self.assertEqual(judged(wide + "\nmany 4096\nmany " + "9" * 31), (True, False))

    def test_reading_against_trying_out(self):
        dice = random.Random(2)
        pool = ["many", "far", "ahead", "solution", "(", ")", "0", "3", "12", "-1", "-", "ab", "", "07", "least", "turns", "greatest"]
        good = 0
        for _ in range(5000):
            words = [dice.choice(list(FORMS) if dice.randrange(9) else pool)]
            words += [dice.choice(pool[4:9] if dice.randrange(6) else pool) for _ in range(dice.randrange(6))]
            fault = fault_in_saying(words)
            line = " ".join(words)
            good += fault is None
            if fault is None:
                self.assertEqual(len(judged(W + "\n" + line)), 1)
                self.assertEqual(raised(judged, W + "\n" + line + "\n" + line + " ?")[1], {"line": 2, "word": len(words)})
            else:
                self.assertEqual(raised(judged, W + "\n" + line), bad(1, fault), line)
                self.assertEqual(raised(judged, W + "\nmany 6\n" + line + "\nx"), bad(2, fault), line)
        self.assertGreater(good, 300)

    def test_lines(self):
        for text, line, word in (
            ("", 0, 0), ("\n", 0, 0), (W + "\n", 1, 0), (W + "\n\nmany 6", 1, 0), (W + "\nmany 6\n", 2, 0), (W + " 0\nmany", 0, len(W.split(" "))), ("( world\nmany 6", 0, 2),
            (W + "\nmany", 1, 1), (W + "\nmany 6 6", 1, 2), (W + "\nmany  6", 1, 1), (W + "\nmany 6 ", 1, 2), (W + "\n many 6", 1, 0), (W + "\nmany -6", 1, 1),
            (W + "\nmany 06", 1, 1), (W + "\nmany -", 1, 1), (W + "\nmany " + "1" * 32, 1, 1), (W + "\nahead 0", 1, 2), (W + "\nahead", 1, 1), (W + "\nahead 0 a", 1, 2),
            (W + "\nsolution", 1, 1), (W + "\nsolution (", 1, 2), (W + "\nfar 1 0", 1, 3), (W + "\nfar ( ) 0", 1, 1), (W + "\nfar 1 ( ) (", 1, 5), (W + "\nMany 6", 1, 0),
            (W + "\nsolution 0\nx", 2, 0), (W + "\nworld 0", 1, 0), (W + "\nleast 0 0", 1, 2), ("many 6", 0, 1), (W + "\nfar 1 0 0 0", 1, 4),
        ):
            self.assertEqual(raised(judged, text), bad(line, word), text)
        for value in junk() + [None, W.encode(), [W]]:
            if not isinstance(value, str):
                self.assertEqual(raised(judged, value), bad(None, None), value)

    def test_texts_ahead_of_terms(self):
        self.assertEqual(raised(judged, "0\nmany 6"), ("BadTerm", {"path": ()}))
        self.assertEqual(raised(judged, "0\nmany 6\nx"), bad(2, 0))
        self.assertEqual(raised(judged, "( about ( world 0 ) )\nsolution 0"), ("BadTerm", {"path": (1,)}))
        self.assertEqual(raised(judged, "( about ( world 0 ) )\nsolution 0 0"), bad(1, 2))

    def test_each_nest_is_counted_by_itself(self):
        long = "( " + "0 " * 1998 + ")"
        self.assertEqual(judged(W + "\nfar 1 " + long + " " + long), (False,))
        more = "( " + "0 " * 1999 + ")"
        self.assertEqual(raised(judged, W + "\nfar 1 " + long + " " + more), bad(1, 2 + 2000 + 2000))
        self.assertEqual(raised(judged, W + "\nfar 1 " + more + " " + long), bad(1, 2 + 2000))
        deep = " ".join(["("] * 30 + [")"] * 30)
        self.assertEqual(judged(W + "\nfar 1 " + deep + " " + deep), (False,))
        self.assertEqual(raised(judged, W + "\nfar 1 0 ( " + deep + " )"), bad(1, 3 + 30))


if __name__ == "__main__":
    unittest.main()
