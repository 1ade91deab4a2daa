import random
import unittest

from helper import junk, raised
from housemodel import Model, call_of, told_of
from termtrying import FLOOR, PLAN, terms, tried
from texttrying import bad
from turnsall import desk as module
from turnsall.desk import Desk
from turnsall.house import House
from turnsall.terms import order_by, solution_by
from turnsall.texts import nest_text

W = ("world", PLAN)
TEXT = nest_text(W)
WORDS = ("do", "back", "in", "out", "free")


def answers(desk):
    """The answers to all words by which nothing is done."""
    return [desk.say(word) for word in ("lower", "solution", "can", "may", "sure", "open", "left", "acts")]


def answers_of(house, solution):
    return [nest_text(each) for each in (house.stands, solution, house.can_do(), house.can_back(), (house.sure_in(), house.sure_out()), house.open_items())] + [
        str(house.left()), str(len(house))]


class Desks(unittest.TestCase):

    def test_at_first(self):
        desk = Desk(TEXT)
        self.assertEqual(desk.term, W)
        self.assertIsInstance(desk.house, House)
        self.assertIs(desk.house, desk.house)
        self.assertEqual(desk.house.order, order_by(W))
        self.assertEqual(answers(desk), ["( )", "( 0 0 )", "( 0 )", "( )", "( ( ) ( ) )", "( 0 1 2 3 )", "6", "0"])
        self.assertEqual(desk.say("undo"), "nothing")

    def test_by_hand(self):
        desk = Desk(TEXT)
        for line, answer in (
            ("do 0", "( 0 )"), ("do 3", "no"), ("do 1", "( 1 )"), ("solution", "( 2 0 )"), ("may", "( 1 )"), ("can", "( 2 )"), ("out 2", "( )"), ("sure", "( ( ) ( 2 3 ) )"),
            ("in 3", "no"), ("in 0", "( )"), ("open", "( 1 )"), ("left", "2"), ("back 1", "( 1 )"), ("back 0", "no"), ("acts", "5"), ("free 2", "( )"), ("free 2", "no"),
            ("go ( 2 2 )", "( 1 2 3 )"), ("lower", "( 0 1 2 3 )"), ("go ( 0 0 )", "( 1 2 3 )"), ("solution", "( 1 0 )"), ("undo", "done"), ("solution", "( 2 2 )"),
            ("acts", "7"), ("go ( 0 1 )", "no"), ("go 0", "no"), ("go ( 2 2 )", "( )"), ("acts", "8"),
        ):
            self.assertEqual(desk.say(line), answer, line)

    def test_a_desk_leads_as_by_hand(self):
        """Beside a model that tries out, and a HOUSE that is led by hand."""
        done = {"yes": 0, "no": 0}
        for seed, term in enumerate(terms(36, 60)):
            dice = random.Random(seed)
            desk, house, model = Desk(nest_text(term)), House(order_by(term)), Model(order_by(term))
            _, solutions = tried(term)
            by_lower = {lower: solution for solution, lower in solutions.items()}
            for _ in range(14):
                word = dice.choice(WORDS + ("in", "go", "undo"))
                if word == "undo":
                    due = "done" if len(house) else "nothing"
                    if len(house):
                        house.undo()
                        model.rows.pop()
                    self.assertEqual(desk.say(word), due)
                    continue
                item = dice.randrange(-1, house.order[0] + 1)
                line = word + " " + str(item)
                if word == "go":
                    solution = dice.choice(list(solutions))
                    item, line = solutions[solution], "go " + nest_text(solution)
                moved = model.act(word, item)
                answer = "no" if moved is None else nest_text(moved)
                self.assertEqual(desk.say(line), answer, (term, line))
                if moved is not None:
                    self.assertEqual(call_of(house, word)(item), moved)
                done["no" if moved is None else "yes"] += 1
                self.assertEqual(told_of(desk.house), told_of(house))
                self.assertIs(desk.house == house, True)
            self.assertEqual(told_of(house), model.told())
            self.assertEqual(answers(desk), answers_of(house, by_lower[house.stands]))
            self.assertEqual(solution_by(term, house.stands), by_lower[house.stands])
        self.assertGreater(min(done.values()), 80)

    def test_the_very_house(self):
        desk = Desk(TEXT)
        desk.house.do(0)
        desk.house.pin_out(1)
        self.assertEqual((desk.say("lower"), desk.say("acts"), desk.say("left")), ("( 0 )", "2", "3"))
        with desk.house.trial():
            self.assertEqual(desk.say("do 2"), "( 2 )")
        self.assertEqual((desk.say("lower"), desk.say("undo"), desk.say("acts")), ("( 0 )", "done", "1"))

    def test_what_is_answered_with_no(self):
        desk = Desk(TEXT)
        for line in ("do 0", "out 2", "do 1"):
            desk.say(line)
        begun, told = told_of(desk.house), answers(desk)
        lines = [
            "", " ", "no", "yes", "Do 3", "do", "do ", "do  2", " do 2", "do 2 ", "do 2 2", "do -1", "do -0", "do 02", "do a", "do -", "do ( 2 )", "do 3", "do 4", "do 1",
            "do " + "9" * 31, "do " + "9" * 32, "back", "back 0", "back 3", "back 1 1", "in", "in 2", "in 4", "in -", "out", "out 2", "out 9", "out 0 0", "free", "free 0",
            "free 2 2", "go", "go ", "go 0", "go ( 0 0", "go ( 0 0 ) )", "go ( 0 1 )", "go ( 0 0 0 )", "go ( 0 0 ) 0", "go -", "go ( 0  0 )", "go ( 00 0 )", "go ( 0 a )",
            "lower 0", "lower ", "solution 0", "can x", "may 1", "sure ( )", "open open", "left left", "acts 0", "undo 1", "undo ", "undo undo", "lower\n", "do 2\n", "do\n2",
            "go ( 0\n0 )", "\nlower", "pin_in 0", "hear ( 0 0 )", "heed ( )", "settle", "trial", "copy", "nothing", "done", "( )", "0", "stands", "many 6", "say", "term",
            "go ( " + "0 " * 2000 + ")", "go " + "( " * 31 + ") " * 30 + ")", "DO 2", "do 2\t",
        ]
        for line in lines + junk() + [None, b"lower", ("lower",), ["lower"], 0]:
            self.assertEqual(desk.say(line), "no", line)
            self.assertEqual(told_of(desk.house), begun)
        self.assertEqual(answers(desk), told)

    def test_three_hundred_acts(self):
        desk = Desk(TEXT)
        for _ in range(150):
            self.assertEqual((desk.say("do 0"), desk.say("back 0")), ("( 0 )", "( 0 )"))
        self.assertEqual([desk.say(line) for line in ("do 0", "go ( 0 0 )", "in 0", "out 3", "acts", "lower")], ["no"] * 4 + ["300", "( )"])
        self.assertEqual((desk.say("undo"), desk.say("lower"), desk.say("back 0"), desk.say("acts")), ("done", "( 0 )", "( 0 )", "300"))

    def test_desks_of_pinned_terms(self):
        """They tell the SOLUTIONS that one of the inner TERM tells when its items are pinned."""
        seen = 0
        for seed, term in enumerate(terms(150, 120)):
            if term[0] != "pinned":
                continue
            _, inner, inside, outside = term
            small, whole = Desk(nest_text(term)), Desk(nest_text(inner))
            for word, lot in (("in", inside), ("out", outside)):
                for item in lot:
                    self.assertNotEqual(whole.say(word + " " + str(item)), "no")
            free = whole.house.open_items()
            self.assertEqual((len(free), small.say("left")), (small.house.order[0], whole.say("left")))
            dice = random.Random(seed)
            for _ in range(25):
                self.assertEqual(small.say("solution"), whole.say("solution"))
                word, spot = dice.choice(("do", "do", "back")), dice.randrange(len(free) + 1)
                if spot < len(free):
                    told = [small.say(word + " " + str(spot)), whole.say(word + " " + str(free[spot]))]
                    self.assertEqual(told[0] == "no", told[1] == "no")
                    seen += told[0] != "no"
        self.assertGreater(seen, 40)

    def test_nothing_open(self):
        desk = Desk(nest_text(("pinned", W, (0, 1), (2,))))
        self.assertEqual(answers(desk), ["( )", "( 2 0 )", "( )", "( )", "( ( ) ( ) )", "( )", "1", "0"])
        self.assertEqual([desk.say(line) for line in ("go ( 2 0 )", "go ( 1 0 )", "do 0", "acts")], ["( )", "no", "no", "1"])

    def test_wrong_texts(self):
        for value in junk() + [None, TEXT.encode(), [TEXT]]:
            if not isinstance(value, str):
                self.assertEqual(raised(Desk, value), bad(None, None), value)
        for text, line, word in (("", 0, 0), (TEXT + "\n", 1, 0), (TEXT + " 0", 0, len(TEXT.split(" "))), (TEXT[:-2], 0, len(TEXT.split(" ")) - 1), ("( x1", 0, 1)):
            self.assertEqual(raised(Desk, text), bad(line, word), text)
        for text, path in (("x", ()), ("( about ( world 0 ) )", (1,)), (nest_text(("beside", W, ("pinned", W, (9,), ()))), (2,))):
            self.assertEqual(raised(Desk, text), ("BadTerm", {"path": path}), text)

    def test_what_stands_in_the_class(self):
        self.assertEqual([name for name in ("term", "house", "say") if name not in vars(Desk)], [])
        self.assertEqual((Desk.__module__, type(vars(Desk)["term"]), type(vars(Desk)["house"])), (module.__name__, property, property))
        floor = ("about", ("world", FLOOR))
        self.assertEqual(Desk(nest_text(floor)).term, floor)


if __name__ == "__main__":
    unittest.main()
