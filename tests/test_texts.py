import random
import unittest

from helper import Word, is_plain, junk, raised, strange
from termtrying import PLAN, terms, tried
from texttrying import bad, fault_tried, is_nest, text_tried
from turnsall.orders import need_order
from turnsall.terms import need_term
from turnsall.texts import nest_text, read_nest, read_order, read_term

CALLS = (read_nest, read_term, read_order)


def some_nest(dice, deep):
    if deep and dice.randrange(3):
        return tuple(some_nest(dice, deep - 1) for _ in range(dice.randrange(4)))
    return dice.choice((None, 0, 1, -1, 12, -340, 10 ** 31 - 1, -10 ** 31 + 1, "a", "z", "abcdefghijkl", "form", 7))


def deep_nest(deep, thing=()):
    for _ in range(deep - 1):
        thing = (thing,)
    return thing


class Nests(unittest.TestCase):

    def test_there_and_back(self):
        dice = random.Random(5)
        nests = [some_nest(dice, 5) for _ in range(400)] + [None, 0, -5, "a", (), ((),), (None, (1, "b"), ())]
        texts = {}
        for nest in nests:
            text = nest_text(nest)
            self.assertEqual(text, text_tried(nest))
            self.assertEqual(read_nest(text), nest)
            self.assertTrue(is_plain(read_nest(text)))
            self.assertEqual(texts.setdefault(text, nest), nest)
        self.assertEqual((nest_text((None, -12, "ab", ((), (0,)))), nest_text(())), ("( - -12 ab ( ( ) ( 0 ) ) )", "( )"))
        self.assertEqual((read_nest("-"), read_nest("-7"), read_nest("x"), read_nest("( )")), (None, -7, "x", ()))

    def test_ends_of_nests(self):
        nines, ten = 10 ** 31 - 1, 10 ** 31
        for nest in (nines, -nines, "abcdefghijkl", "a", deep_nest(30), (0,) * 1998, ((),) * 999, ("form",) * 1998):
            self.assertEqual(read_nest(nest_text(nest)), nest)
            self.assertLessEqual(len(nest_text(nest).split(" ")), 2000)
        for nest in (ten, -ten, "abcdefghijklm", "", deep_nest(31), deep_nest(31, 0) + (deep_nest(31),), (0,) * 1999, ((),) * 1000, (0,) * 5000, ("", 1),
                     "A", "a b", "a1", "-", "(", "a\n", "\n", " ", "ab-", (1, ten), ("a", ("B",)), deep_nest(60), ((0,) * 1000,) * 2):
            kind, fields = raised(nest_text, nest)
            self.assertEqual(kind, "BadNest", nest)
            self.assertIs(fields["given"], nest)
        self.assertEqual(nest_text(deep_nest(30, (1, 2))), " ".join(["("] * 30 + ["1", "2"] + [")"] * 30))

    def test_values_of_every_kind(self):
        good = [value for value in junk() if is_nest(value)]
        self.assertEqual(len(good), 7)
        for value in junk():
            kind, told = raised(nest_text, value)
            if value.__class__ in (int, str, tuple) and is_nest(value):
                self.assertEqual((kind, told), (None, text_tried(value)))
            else:
                self.assertEqual(kind, "BadNest", value)
                self.assertIs(told["given"], value)

    def test_strange_values(self):
        self.assertIs(type(nest_text(strange((1, ("a", None))))), str)
        self.assertEqual(nest_text(strange((1, ("a", None)))), "( 1 ( a - ) )")
        told = read_nest(Word("( 1 ( a - ) )"))
        self.assertTrue(is_plain(told))
        self.assertEqual(told, (1, ("a", None)))


class Reading(unittest.TestCase):

    def test_against_trying_out(self):
        dice = random.Random(8)
        good = 0
        pool = ["(", ")", "(", ")", "-", "0", "7", "-3", "ab", "", "00", "-0", "07", "A", "+1", "x1", "--1", "1-", "(("]
        for _ in range(6000):
            words = [dice.choice(pool[:9] if dice.randrange(4) else pool) for _ in range(dice.randrange(1, 9))]
            fault = fault_tried(words)
            text = " ".join(words)
            good += fault is None
            if fault is None:
                self.assertEqual(nest_text(read_nest(text)), text)
                self.assertEqual(raised(read_nest, text + "\n" + text), bad(1, 0))
            else:
                self.assertEqual(raised(read_nest, text), bad(0, fault), text)
                self.assertEqual(raised(read_nest, text + "\n0"), bad(0, fault), text)
        self.assertGreater(good, 300)

    def test_words_at_the_edges(self):
        for word, good in (("0", True), ("-0", False), ("00", False), ("-", True), ("--", False), ("-00", False), ("-01", False), ("01", False), ("+1", False),
                           ("1" * 31, True), ("1" * 32, False), ("-" + "9" * 31, True), ("-" + "9" * 32, False), ("a" * 12, True), ("a" * 13, False),
                           ("aB", False), ("a1", False), ("1a", False), ("a-", False), ("1.0", False), ("1_0", False), ("", False), ("()", False), ("a,", False)):
            for text, spot in ((word, 0), ("( " + word + " )", 1), ("( ( ) a " + word + " )", 4)):
                if good:
                    self.assertEqual(nest_text(read_nest(text)), text)
                else:
                    self.assertEqual(raised(read_nest, text), bad(0, spot), text)

    def test_spaces_and_lines(self):
        for text, line, word in (
            ("", 0, 0), (" ", 0, 0), ("\n", 0, 0), ("0 ", 0, 1), (" 0", 0, 0), ("(  )", 0, 1), ("( ) ", 0, 2), ("( 1  2 )", 0, 2), ("0\n", 1, 0), ("0\n0", 1, 0),
            ("0\n\n", 1, 0), ("( 1\n)", 0, 2), ("(\n", 0, 1), ("0 \n1", 0, 1), ("0 0 x", 0, 1), ("( ) )", 0, 2), (")", 0, 0), ("( 0", 0, 2), ("(", 0, 1),
            ("( ( )", 0, 3), ("( x1 )", 0, 1), ("0\n)", 1, 0), ("\n0", 0, 0), ("()", 0, 0), ("( 0 ) 0", 0, 3),
        ):
            for call in CALLS:
                self.assertEqual(raised(call, text), bad(line, word), text)

    def test_too_many_words_and_too_deep(self):
        row = ["("] + ["0"] * 1998 + [")"]
        self.assertEqual(read_nest(" ".join(row)), (0,) * 1998)
        for words in (["("] + ["0"] * 1999 + [")"], ["("] * 1 + ["0"] * 1999 + ["?"], ["("] + ["0"] * 2500, ["("] + ["0"] * 1999 + [""]):
            self.assertEqual(raised(read_nest, " ".join(words)), bad(0, 2000))
        # What lacks behind 2,000 words lacks there.
        self.assertEqual(raised(read_nest, " ".join(["("] + ["0"] * 1999)), bad(0, 2000))
        self.assertEqual(raised(read_nest, " ".join(["("] + ["0"] * 1998)), bad(0, 1999))
        self.assertEqual(raised(read_nest, " ".join(row + ["0"])), bad(0, 2000))
        deep = ["("] * 30 + [")"] * 30
        self.assertEqual(read_nest(" ".join(deep)), deep_nest(30))
        self.assertEqual(raised(read_nest, " ".join(["("] + deep + [")"])), bad(0, 30))
        self.assertEqual(read_nest(" ".join(["("] + deep[1:-1] * 2 + [")"])), (deep_nest(29),) * 2)

    def test_no_strings(self):
        for value in junk() + [None, b"0", ["0"], ("0",), 0]:
            if not isinstance(value, str):
                for call in CALLS:
                    self.assertEqual(raised(call, value), bad(None, None), value)


class TermsAndOrders(unittest.TestCase):

    def test_terms(self):
        texts = set()
        for term in terms(70):
            text = nest_text(term)
            self.assertEqual(read_term(text), term)
            self.assertIs(need_term(term), term)
            texts.add(text)
            for solution in list(tried(term)[1])[:5]:
                self.assertEqual(read_nest(nest_text(solution)), solution)
        self.assertEqual(len(texts), 70)
        self.assertTrue(is_plain(read_term(nest_text(("world", PLAN)))))

    def test_what_is_no_term(self):
        world = nest_text(PLAN)
        for text, path in (("0", ()), ("( )", ()), ("-", ()), ("( world 0 )", ()), ("( about ( about 0 ) )", (1, 1)), ("( beside ( world " + world + " ) 3 )", (2,)),
                           ("( pinned ( world " + world + " ) ( 9 ) ( ) )", ()), ("world", ()), ("( about ( pinned ( world " + world + " ) ( 0 ) ( 0 ) ) )", (1,))):
            self.assertEqual(raised(read_term, text), ("BadTerm", {"path": path}), text)
        self.assertEqual(raised(read_term, "( world 0 ) )"), bad(0, 4))

    def test_orders(self):
        for order in ((0, ()), (1, ()), (3, ((0, 1), (0, 2), (1, 2))), (20, tuple((item, item + 1) for item in range(19)))):
            text = nest_text(order)
            self.assertEqual(read_order(text), order)
            self.assertTrue(is_plain(read_order(text)))
            self.assertIs(need_order(order), order)
        self.assertEqual(nest_text((2, ((0, 1),))), "( 2 ( ( 0 1 ) ) )")
        for text, part in (("0", "form"), ("-", "form"), ("( 2 )", "form"), ("( 21 ( ) )", "many"), ("( - ( ) )", "many"), ("( 2 ( ( 1 0 ) ) )", "pairs"), ("( 2 a )", "pairs"),
                           ("( -1 ( ) )", "many"), ("( 2 0 )", "pairs"), ("( 3 ( ( 0 1 ) ( 0 1 ) ) )", "pairs")):
            self.assertEqual(raised(read_order, text), ("BadOrder", {"part": part}), text)


if __name__ == "__main__":
    unittest.main()
