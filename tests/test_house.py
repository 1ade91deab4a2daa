import copy
import itertools
import random
import unittest

from helper import Same, Thing, fits_tried, is_plain, junk, raised, small_orders, some_order, strange
from housemodel import Model, call_of, told_of
from turnsall import errors, house as module
from turnsall.house import House, led, under
from turnsall.lowers import join, meet
from turnsall.nearests import nearest_ends, sum_from
from turnsall.pins import nearest
from turnsall.worths import worth_of

ORDER = (4, ((0, 1), (1, 2)))
WORDS = ("do", "back", "in", "out", "free", "go")
BAD_ITEMS = [None, True, False, -1, 4, 20, "0", "", (0,), [0], (), 10 ** 40, Thing(), Same(), 1j]
BAD_LOWERS = [None, True, 0, "0", [0], (True,), (None,), (0, 0), (1, 0), (4,), (-1,), ((0,),), Thing(), (Same(),), {0}, (1,), (0, 2)]


def orders():
    return small_orders() + [some_order(seed, 7, 30) for seed in range(3)]


def some_acts(model, dice, many):
    """As many words and things; about half of the ACTS can be."""
    items = list(range(model.order[0])) or [0]
    for _ in range(many):
        word = dice.choice(WORDS + ("in", "out", "free"))
        if word == "go":
            yield word, dice.choice(model.everything)
            continue
        good = [item for item in items if model.goal_of(word, item)]
        yield word, dice.choice(good if good and dice.randrange(4) else items)


def led_for_trial(seed, many=12):
    """A HOUSE and its model behind some ACTS."""
    dice = random.Random(seed)
    order = dice.choice(orders())
    model, house = Model(order), House(order)
    for word, thing in some_acts(model, dice, many):
        if model.act(word, thing) is not None:
            call_of(house, word)(thing)
    return house, model


class Acts(unittest.TestCase):

    def test_at_first(self):
        for order in orders():
            house = House(order)
            self.assertEqual(told_of(house), Model(order).told())
            self.assertEqual((house.stands, house.pins, house.acts, len(house)), ((), ((), ()), (), 0))

    def test_against_trying_out(self):
        done = {word: [0, 0] for word in WORDS}
        still = 0
        for seed, order in enumerate(orders()):
            dice = random.Random(seed)
            model, house = Model(order), House(order)
            for word, thing in some_acts(model, dice, 40):
                before = told_of(house)
                clash = self.pins_of(model, word, thing)
                moved = model.act(word, thing)
                kind, told = raised(call_of(house, word), thing)
                done[word][moved is None] += 1
                if moved is None:
                    due = ("BadPins", {"given": clash}) if clash is not None else ("BadItem", {"given": thing})
                    self.assertEqual((kind, told), due)
                    self.assertEqual(told_of(house), before)
                else:
                    self.assertEqual((kind, told), (None, moved))
                    still += moved == ()
                self.assertEqual(told_of(house), model.told())
            self.assertTrue(is_plain(tuple(told_of(house).values())))
        self.assertTrue(all(many[0] > 20 for many in done.values()), done)
        self.assertTrue(all(done[word][1] > 10 for word in WORDS if word != "go"), done)
        self.assertGreater(still, 100)

    def pins_of(self, model, word, thing):
        """The PINS that would clash, None if the item is refused."""
        inside, outside = model.pins
        if not 0 <= thing < model.order[0] if isinstance(thing, int) else True:
            return None
        if word == "in" and thing not in inside:
            return tuple(sorted(inside + (thing,))), outside
        if word == "out" and thing not in outside:
            return inside, tuple(sorted(outside + (thing,)))
        return None

    def test_pins_that_clash(self):
        house = House(ORDER)
        self.assertEqual(house.pin_out(1), ())
        # An item that is in OUT already clashes with itself; one that is in this very LOT is no item for it.
        self.assertEqual(raised(house.pin_in, 1), ("BadPins", {"given": ((1,), (1,))}))
        self.assertEqual(raised(house.pin_in, 2), ("BadPins", {"given": ((2,), (1,))}))
        self.assertEqual(raised(house.pin_out, 1), ("BadItem", {"given": 1}))
        self.assertEqual(house.pin_in(0), (0,))
        self.assertEqual(raised(house.pin_in, 0), ("BadItem", {"given": 0}))
        self.assertEqual(raised(house.pin_out, 0), ("BadPins", {"given": ((0,), (0, 1))}))
        # What is sure in by another one can be put into IN, too; nothing moves.
        self.assertEqual((house.free(1), house.pin_in(2), house.pin_in(1), house.pins), ((), (1, 2), (), ((0, 1, 2), ())))
        self.assertEqual((house.free(2), house.stands, house.sure_in()), ((), (0, 1, 2), (0, 1)))
        self.assertEqual(raised(house.free, 2), ("BadItem", {"given": 2}))
        self.assertEqual(raised(house.free, 3), ("BadItem", {"given": 3}))
        self.assertEqual(len(house), 6)

    def test_what_moves(self):
        house = House(ORDER)
        self.assertEqual(house.go(()), ())
        self.assertEqual((house.do(0), house.do(3), house.pin_out(0), house.stands), ((0,), (3,), (0,), (3,)))
        self.assertEqual((house.go((0, 1)), house.stands, house.acts[-1]), ((3,), (), ("go", (0, 1))))
        self.assertEqual((house.free(0), house.pin_in(2), house.stands), ((), (0, 1, 2), (0, 1, 2)))
        self.assertEqual([raised(house.back, item)[0] for item in (2, 1, 0, 3)], ["BadItem"] * 4)
        self.assertEqual((house.can_do(), house.can_back(), house.left()), ((3,), (), 2))

    def test_facts_of_leading(self):
        for seed in range(25):
            house, model = led_for_trial(seed)
            fitting = model.fitting()
            # All that fit can be come to by "do" and "back", by as many ACTS as they are far.
            for goal in fitting[:12]:
                with house.trial():
                    far = len(set(house.stands) ^ set(goal))
                    for _ in range(far):
                        for item in house.can_back():
                            if item not in goal:
                                house.back(item)
                                break
                        else:
                            house.do(min(item for item in house.can_do() if item in goal))
                    self.assertEqual(house.stands, goal)
            reached = {house.stands}
            rest = [house.copy()]
            while rest and len(reached) < 40:
                now = rest.pop()
                for word, items in (("do", now.can_do()), ("back", now.can_back())):
                    for item in items:
                        other = now.copy()
                        call_of(other, word)(item)
                        if other.stands not in reached:
                            reached.add(other.stands)
                            rest.append(other)
            self.assertLessEqual(reached, set(fitting))
            if len(fitting) < 30:
                self.assertEqual(reached, set(fitting))

    def test_pins_in_whatever_turn(self):
        tried = 0
        for seed in range(40):
            house, model = led_for_trial(seed, 5)
            dice = random.Random(seed)
            items = [item for item in range(house.order[0]) if item not in house.pins[0] + house.pins[1]]
            chosen = [(dice.choice(("in", "out")), item) for item in dice.sample(items, min(3, len(items)))]
            pins = tuple(tuple(sorted(house.pins[spot] + tuple(item for each, item in chosen if each == word))) for spot, word in enumerate(("in", "out")))
            if not fits_tried(house.order, pins):
                continue
            tried += 1
            due = nearest(house.order, pins, house.stands)
            for row in itertools.permutations(chosen):
                other = house.copy()
                for word, item in row:
                    call_of(other, word)(item)
                self.assertEqual((other.stands, other.pins), (due, pins))
        self.assertGreater(tried, 20)


class Going(unittest.TestCase):

    def test_hearing_and_heeding(self):
        for seed in range(40):
            house, model = led_for_trial(seed)
            dice = random.Random(seed)
            for call, both in (("hear", join), ("heed", meet)):
                told = [dice.choice(model.everything) for _ in range(3)]
                for row in itertools.permutations(told):
                    other = house.copy()
                    goal = stood = house.stands
                    for lower in row:
                        step = both(house.order, other.stands, lower)
                        due = model.nearest(step, house.pins)
                        moved = tuple(sorted(set(due) ^ set(other.stands)))
                        self.assertEqual(getattr(other, call)(lower), moved)
                        self.assertEqual((other.stands, other.acts[-1]), (due, ("go", step)))
                        goal = both(house.order, goal, lower)
                    self.assertEqual(other.stands, nearest(house.order, house.pins, goal))
                    self.assertEqual(len(other), len(house) + 3)
                self.assertEqual(house.stands, stood)

    def test_houses_that_hear_each_other(self):
        for seed in range(20):
            first, model = led_for_trial(seed)
            dice = random.Random(seed)
            houses = [first.copy() for _ in range(3)]
            for each in houses:
                each.go(dice.choice(model.everything))
            for each in houses:
                for other in [other.stands for other in houses]:
                    each.hear(other)
            self.assertEqual(len({each.stands for each in houses}), 1)

    def test_settling(self):
        for seed in range(40):
            house, model = led_for_trial(seed)
            dice = random.Random(seed)
            told = tuple(dice.choice(model.everything) for _ in range(1 + seed % 8))
            low = nearest_ends(house.order, told)[0]
            due = model.nearest(low, house.pins)
            self.assertEqual(house.settle(told), tuple(sorted(set(due) ^ set(model.stands))))
            self.assertEqual((house.stands, house.acts[-1]), (due, ("go", low)))
            sums = [sum_from(house.order, told, lower) for lower in model.fitting()]
            self.assertEqual(sum_from(house.order, told, house.stands), min(sums))

    def test_going_for_worths(self):
        ties = 0
        for seed in range(60):
            house, model = led_for_trial(seed)
            dice = random.Random(seed)
            wide = dice.choice((1, 2, 1000))
            worths = tuple(dice.randrange(-wide, wide + 1) for _ in range(house.order[0]))
            right = {lower: worth_of(house.order, worths, lower) for lower in model.fitting()}
            best = [lower for lower in right if right[lower] == max(right.values())]
            due, = [lower for lower in best if all(set(lower) <= set(other) for other in best)]
            self.assertEqual(house.go_for(worths), tuple(sorted(set(due) ^ set(model.stands))))
            self.assertEqual((house.stands, house.acts[-1]), (due, ("go", due)))
            ties += len(best) > 1
        self.assertGreater(ties, 10)
        # Worths of what is not open count nothing, what is open ahead of it does.
        house = House(ORDER)
        house.pin_out(2)
        self.assertEqual((house.go_for((-5, -5, 1000, -1)), house.stands), ((), ()))
        house.pin_in(0)
        self.assertEqual((house.go_for((-1000, 3, -7, 0)), house.stands), ((1,), (0, 1)))


class Back(unittest.TestCase):

    def test_undo(self):
        house = House(ORDER)
        self.assertEqual(raised(house.undo), ("NothingLeft", {"many": 1}))
        row = [told_of(house)]
        for word, thing in (("do", 0), ("in", 2), ("out", 3), ("free", 2), ("back", 2), ("go", (0, 3)), ("go", (0, 1)), ("do", 2)):
            call_of(house, word)(thing)
            row.append(told_of(house))
        self.assertEqual(raised(house.undo, 9), ("NothingLeft", {"many": 9}))
        self.assertEqual(raised(house.undo, 300), ("NothingLeft", {"many": 300}))
        self.assertEqual(told_of(house), row[-1])
        self.assertIsNone(house.undo())
        self.assertEqual(told_of(house), row[-2])
        self.assertIsNone(house.undo(many=2))
        self.assertEqual(told_of(house), row[-4])
        self.assertIsNone(house.undo(5))
        self.assertEqual(told_of(house), row[0])
        for value in junk() + [None, "1", (1,), [1], 0, 301, -5, True]:
            kind, fields = raised(house.undo, value)
            self.assertEqual(kind, "BadNumber", value)
            self.assertIs(fields["given"], value)

    def test_copies(self):
        house, model = led_for_trial(5)
        other = house.copy()
        self.assertIsInstance(other, House)
        self.assertIsNot(other, house)
        self.assertEqual(told_of(other), told_of(house))
        other.go(())
        other.undo(2)
        self.assertEqual(told_of(house), model.told())
        last = other.copy()
        house.undo(len(house))
        self.assertEqual((told_of(other), len(house)), (told_of(last), 0))
        with other.trial():
            other.undo(1)
            kept = other.copy()
        self.assertEqual(len(kept), len(other) - 1)

    def test_trials(self):
        house, model = led_for_trial(5)
        begun = model.told()
        manager = house.trial()
        self.assertIsNot(manager, house)
        with manager as given:
            self.assertIs(given, house)
            house.undo(len(house))
            house.do(0)
            self.assertEqual(house.acts, (("do", 0),))
        self.assertEqual(told_of(house), begun)
        # Several blocks of one manager, one behind another, also after the HOUSE has gone on.
        house.undo(2)
        begun = told_of(house)
        for _ in range(2):
            with manager:
                house.go(())
                house.go(())
            self.assertEqual(told_of(house), begun)
        with manager:
            pass
        self.assertEqual(told_of(house), begun)
        house.undo(1)
        self.assertEqual(len(house), begun["len"] - 1)

    def test_trials_within_one_another(self):
        house = House(ORDER)
        outer, inner = house.trial(), house.trial()
        house.do(0)
        with outer:
            house.do(1)
            with inner:
                house.undo(2)
                with outer:
                    house.do(3)
                    self.assertEqual((house.stands, len(house)), ((3,), 1))
                self.assertEqual((house.stands, len(house)), ((), 0))
                house.pin_out(0)
            self.assertEqual((house.stands, house.pins, len(house)), ((0, 1), ((), ()), 2))
            house.do(2)
        self.assertEqual((house.stands, house.acts), ((0,), (("do", 0),)))

    def test_an_exception_goes_on(self):
        house = House(ORDER)
        house.do(0)
        for error in (errors.BadItem(0), KeyError("x"), StopIteration()):
            with self.assertRaises(error.__class__) as caught:
                with house.trial():
                    house.go((0, 1, 2, 3))
                    raise error
            self.assertIs(caught.exception, error)
            self.assertEqual(house.acts, (("do", 0),))

    def test_under(self):
        house = House(ORDER)
        house.do(0)
        manager = house.trial()
        told = under(manager, lambda given: (given.do(1), given.acts, given is house))
        self.assertEqual(told, ((1,), (("do", 0), ("do", 1)), True))
        self.assertEqual(house.acts, (("do", 0),))
        thing = object()
        self.assertIs(under(manager, lambda given: thing), thing)
        self.assertIsNone(under(manager, lambda given: None))
        kind, fields = raised(under, manager, lambda given: given.do(3) and given.do(3))
        self.assertEqual((kind, fields, house.stands), ("BadItem", {"given": 3}, (0,)))
        self.assertEqual(under(manager, House.can_do), (1, 3))
        nested = under(manager, lambda given: (given.do(1), under(given.trial(), lambda again: again.go(())), given.stands))
        self.assertEqual(nested, ((1,), (0, 1), (0, 1)))


class Alike(unittest.TestCase):

    def test_equal_houses(self):
        house, other = House(ORDER), House(ORDER)
        self.assertEqual((house == other, house != other), (True, False))
        other.do(3)
        self.assertEqual((house == other, house != other), (False, True))
        other.go(())
        self.assertEqual((house == other, house != other, house.acts, len(other)), (True, False, (), 2))
        # PINS count, ACTS do not.
        one, two = House(ORDER), House(ORDER)
        one.pin_out(3)
        self.assertIs(one == two, False)
        two.pin_out(0)
        self.assertIs(one == two, False)
        two.pin_out(3)
        two.free(0)
        self.assertEqual((one == two, one != two, len(one), len(two)), (True, False, 1, 3))
        one.pin_in(0)
        self.assertIs(one == two, False)

    def test_the_same_order_as_passed(self):
        closed = (3, ((0, 1), (0, 2), (1, 2)))
        bare = (3, ((0, 1), (1, 2)))
        self.assertEqual((House(closed).order, House(bare).order), (closed, bare))
        self.assertIs(House(closed) == House(bare), False)
        self.assertIs(House(closed) != House(bare), True)
        self.assertIs(House((0, ())) == House((1, ())), False)
        self.assertIs(House(closed) == House(copy.deepcopy(closed)), True)

    def test_beside_other_values(self):
        house = House(ORDER)
        for value in junk() + [None, ORDER, (), 0, house.trial(), Same(), Thing()]:
            self.assertIs(house == value, False, value)
            self.assertIs(house != value, True, value)

    def test_methods_stand_in_the_class(self):
        names = """order stands pins acts do back pin_in pin_out free go hear heed settle go_for sure_in sure_out open_items can_do
        can_back left undo copy trial __len__ __eq__ __ne__ __init__""".split()
        self.assertEqual([name for name in names if name not in vars(House)], [])
        for name in ("order", "stands", "pins", "acts"):
            self.assertIsInstance(vars(House)[name], property)
        self.assertEqual((House.__module__, led.__module__, under.__module__), (module.__name__,) * 3)


class Wrong(unittest.TestCase):

    def test_wrong_orders(self):
        for value in junk() + [None, (21, ()), (2, ((1, 0),)), [2, ()]]:
            self.assertEqual(raised(House, value)[0], "BadOrder", value)
            self.assertEqual(raised(led, value, Thing())[0], "BadOrder", value)

    def test_wrong_arguments(self):
        house = House(ORDER)
        house.do(0)
        begun = told_of(house)
        for value in junk() + BAD_ITEMS:
            for call in (house.do, house.back, house.pin_in, house.pin_out, house.free):
                kind, fields = raised(call, value)
                self.assertEqual(kind, "BadItem", value)
                self.assertIs(fields["given"], value)
        for value in junk() + BAD_LOWERS:
            for call in (house.go, house.hear, house.heed):
                kind, fields = raised(call, value)
                self.assertEqual(kind, "BadLower", value)
                self.assertIs(fields["given"], value)
        for value in junk() + [None, (), ((0,),) * 9, [(0,)], ((1,),), ((0,), None), (0,), ((0,), (1, 0))]:
            kind, fields = raised(house.settle, value)
            self.assertEqual(kind, "BadLowers", value)
            self.assertIs(fields["given"], value)
        for value in junk() + [None, (), (0, 0, 0), [0] * 4, (0, 0, 0, 1001), (0, 0, 0, True), (0, 0, 0, None)]:
            kind, fields = raised(house.go_for, value)
            self.assertEqual(kind, "BadWorths", value)
            self.assertIs(fields["given"], value)
        self.assertEqual(told_of(house), begun)

    def test_three_hundred_acts(self):
        house = led(ORDER, (("go", ()), ("do", 3), ("back", 3)) * 100)
        house.undo()
        house.pin_out(3)
        self.assertEqual((len(house), house.pins), (300, ((), (3,))))
        begun = told_of(house)
        due = ("TooMany", {"most": 300})
        calls = [(house.do, 0), (house.pin_in, 0), (house.pin_out, 2), (house.free, 3), (house.go, ()), (house.hear, (0,)),
                 (house.heed, ()), (house.settle, ((),)), (house.go_for, (0, 0, 0, 0))]
        for call, thing in calls:
            self.assertEqual(raised(call, thing), due)
        # Behind the errors of arguments.
        for call, thing, kind in ((house.do, 3, "BadItem"), (house.do, 1, "BadItem"), (house.back, 0, "BadItem"), (house.pin_in, 3, "BadPins"),
                                  (house.pin_out, 3, "BadItem"), (house.free, 0, "BadItem"), (house.go, (1,), "BadLower"), (house.hear, 0, "BadLower"),
                                  (house.heed, None, "BadLower"), (house.settle, (), "BadLowers"), (house.go_for, (), "BadWorths")):
            self.assertEqual(raised(call, thing)[0], kind)
        self.assertEqual(told_of(house), begun)
        house.undo()
        house.do(0)
        self.assertEqual(raised(house.back, 0), due)
        self.assertEqual(len(house), 300)
        with house.trial():
            self.assertIsNone(house.undo(300))
            house.do(0)
        self.assertEqual(len(house), 300)
        house.undo(300)
        self.assertEqual((len(house), house.acts), (0, ()))

    def test_led(self):
        for seed in range(25):
            house, model = led_for_trial(seed)
            other = led(model.order, model.acts())
            self.assertEqual(told_of(other), told_of(house))
            self.assertIs(other == house, True)
        acts = (("do", 0), ("in", 2), ("free", 2), ("out", 3), ("back", 2), ("go", (0, 1)))
        self.assertEqual(led(ORDER, acts).acts, acts)
        # What stands behind the first four ACTS is (0, 1, 2), with 3 in OUT.
        wrong = [
            ("do", 0), ("do", 3), ("back", 3), ("back", 0), ("in", 3), ("in", 4), ("out", 3), ("free", 0), ("go", (1,)), ("go", 0), ("do", (0,)),
            ("hear", ()), ("undo", 1), ("settle", ((),)), ("pin_in", 0), ("do",), ("do", 3, 3), (), ["back", 2], ("back", [2]), "do",
            (("back",), 2), (None, 2), ("back", True), ("back", "2"), ("back", None), (Same(), 2), ("back", Thing()),
        ]
        for value in junk() + [None] + wrong:
            self.assertEqual(raised(led, ORDER, acts[:4] + (value,)), ("BadActs", {"given": 4}), value)
            # The first one that cannot be as the HOUSE stands by then, whatever comes behind.
            self.assertEqual(raised(led, ORDER, acts[:4] + (("go", ()), ("go", (0, 1, 2)), value, value)), ("BadActs", {"given": 6}), value)
            self.assertEqual(raised(led, ORDER, acts[:4] + (("back", 1), value)), ("BadActs", {"given": 4}), value)
        self.assertEqual(raised(led, ORDER, (("do", 1), ("do", 0))), ("BadActs", {"given": 0}))
        self.assertEqual(raised(led, ORDER, (("do", 0), ("do", 0))), ("BadActs", {"given": 1}))

    def test_led_by_how_many(self):
        acts = (("do", 0), ("back", 0)) * 150
        self.assertEqual(len(led(ORDER, acts)), 300)
        self.assertEqual(raised(led, ORDER, acts + (("do", 0),)), ("BadActs", {"given": -1}))
        self.assertEqual(raised(led, ORDER, acts[:299] + (("do", 0),)), ("BadActs", {"given": 299}))
        for value in junk() + [None, list(acts[:2]), {}, "do", 3]:
            if not isinstance(value, tuple):
                self.assertEqual(raised(led, ORDER, value), ("BadActs", {"given": -1}), value)
            elif len(value) <= 300:
                self.assertEqual(raised(led, ORDER, value), ("BadActs", {"given": 0}), value)
        self.assertEqual(led(ORDER, ()), House(ORDER))

    def test_strange_values_are_told_as_plain_ones(self):
        house = House(strange(ORDER))
        found = [house.do(strange(0)), house.pin_in(strange(1)), house.pin_out(strange(2)), house.free(strange(1)), house.back(strange(1)),
                 house.go(strange((0, 1))), house.hear(strange((3,))), house.heed(strange((0,))), house.settle(strange(((0,), (0, 1)))),
                 house.go_for(strange((1, 1, 1, -1)))]
        self.assertTrue(is_plain(tuple(found)))
        self.assertTrue(is_plain(tuple(told_of(house).values())))
        house.undo(strange(2))
        self.assertEqual(len(house), 8)
        self.assertTrue(is_plain(tuple(told_of(led(strange(ORDER), strange(house.acts))).values())))

    def test_what_is_passed_stays(self):
        passed = [[0, 1], {"a": 1}, [[0]], [("do", 0)]]
        for value in passed:
            kept = copy.deepcopy(value)
            house = House(ORDER)
            for call in (house.do, house.pin_in, house.go, house.hear, house.settle, house.go_for, house.undo):
                self.assertIsNotNone(raised(call, value)[0])
            self.assertIsNotNone(raised(led, ORDER, value)[0])
            self.assertEqual(value, kept)

    def test_great_orders(self):
        house = House((20, ()))
        self.assertEqual((house.left(), house.pin_in(7), house.left(), house.pin_out(3), house.left()), (2 ** 20, (7,), 2 ** 19, (), 2 ** 18))
        chain = House((20, tuple((item, item + 1) for item in range(19))))
        self.assertEqual((chain.pin_in(9), chain.pin_out(12), chain.left()), (tuple(range(10)), (), 3))
        self.assertEqual((chain.go(tuple(range(20))), chain.stands), ((10, 11), tuple(range(12))))


if __name__ == "__main__":
    unittest.main()
