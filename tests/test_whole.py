"""What the document promises across its parts."""

import copy
import itertools
import unittest

from examples import FLOORS, NETS, PAIRS, PLANS, STREETS, small_enough
from helper import lowers, raised, small_orders, some_order
from housemodel import call_of, told_of
from termtrying import terms
from turnsall.asothers import as_net, as_plan
from turnsall.aspairs import as_pairs, edges_of, turn_items
from turnsall.counts import how_many, sizes
from turnsall.countpapers import check_count, count_paper
from turnsall.desk import Desk
from turnsall.house import House, led
from turnsall.judge import judged
from turnsall.leading import are_turned_alike, led_over
from turnsall.lowers import all_lowers, can_put, can_take
from turnsall.numbers import lower_at, solution_at, solution_count
from turnsall.orders import are_like, bare_form
from turnsall.pins import nearest, sure_in, sure_out
from turnsall.prices import cheapest_solution, dearest_solution, price_of, turn_prices
from turnsall.sums import about
from turnsall.terms import is_term_solution, lower_by, order_by, solution_by
from turnsall.texts import nest_text, read_nest, read_order, read_term
from turnsall.worldhouses import go_to, house_of, solutions_left, standing
from turnsall.worlds import (
    all_solutions, can_turn, greatest_solution, is_solution, least_solution, lower_of, order_of, solution_of, turned, turns,
)
from turnsall.worths import greatest_dearest, least_dearest

FREE = ((), ())


def built(order):
    """The WORLDS built of the ORDER, each with the items of its TURNS."""
    found = []
    if 0 < order[0] < 13:
        found += [(as_plan(order), tuple(range(order[0]))), (as_net(order), tuple(range(order[0])))]
    if len(edges_of(order)) < 13:
        found.append((as_pairs(order), turn_items(order)))
    return found


def some_worlds():
    found = []
    for worlds in (PAIRS, STREETS, PLANS, FLOORS, NETS):
        good = [world for world in worlds if raised(turns, world)[0] is None and small_enough(world)]
        found += good[:3] + good[-3:]
    return found


class Whole(unittest.TestCase):

    def test_built_worlds_lead_back(self):
        words = []
        for order in small_orders() + [some_order(seed, 8, 20) for seed in range(3)]:
            for world, items in built(order):
                words.append(world[0])
                back = order_of(world)
                pairs = tuple(sorted((items[a], items[b]) for a, b in back[1]))
                self.assertEqual((back[0], pairs), bare_form(order))
                self.assertTrue(are_like((back[0], pairs), order))
                self.assertEqual(solution_count(world), how_many(order, FREE))
                if how_many(order, FREE) <= 400:
                    told = {tuple(sorted(items[number] for number in lower_of(world, solution))) for solution in all_solutions(world)}
                    self.assertEqual(told, set(all_lowers(order)))
                if back[0] < 8 and bare_form(order) == back:
                    self.assertTrue(are_turned_alike(world, world))
        self.assertGreater(min(words.count(word) for word in ("plan", "net", "pairs")), 12)

    def test_houses_terms_and_worlds_tell_the_same(self):
        for world in some_worlds():
            order, term, house = order_of(world), ("world", world), house_of(world)
            self.assertEqual((order_by(term), house.order), (order, order))
            found = all_solutions(world)
            self.assertEqual((solution_count(world), house.left(), how_many(order, FREE)), (len(found),) * 3)
            self.assertEqual(solutions_left(world, house), found)
            self.assertEqual(judged("\n".join([nest_text(term), "many " + str(len(found)), "turns " + str(order[0])])), (True, True))
            for number in range(0, len(found), max(1, len(found) // 8)):
                solution, lower = found[number], lower_of(world, found[number])
                self.assertEqual((solution_at(world, number), lower_at(order, number)), (solution, lower))
                self.assertEqual((lower_by(term, solution), solution_by(term, lower), is_term_solution(term, solution)), (lower, solution, True))
                go_to(world, house, solution)
                self.assertEqual((house.stands, standing(world, house)), (lower, solution))
                self.assertEqual((house.can_do(), can_put(order, lower), can_turn(world, solution)), (can_turn(world, solution),) * 3)
                self.assertEqual(house.can_back(), can_take(order, lower))
                for item in house.can_do():
                    other = led(order, house.acts + (("do", item),))
                    self.assertEqual(standing(world, other), turned(world, solution, item))
            self.assertEqual((solution_of(world, ()), found[0]), (least_solution(world),) * 2)
            self.assertEqual(solution_by(("about", term), ()), greatest_solution(world))

    def test_desks_and_houses_and_worlds(self):
        for world in some_worlds():
            text = nest_text(("world", world))
            desk, house = Desk(text), house_of(world)
            for solution in all_solutions(world)[-1:0:-3][:6]:
                self.assertEqual(desk.say("go " + nest_text(solution)), nest_text(go_to(world, house, solution)))
                self.assertEqual(desk.say("solution"), nest_text(standing(world, house)))
                self.assertTrue(desk.house == house)
                self.assertEqual(told_of(desk.house), told_of(house))
            sheet = [text, "least " + nest_text(least_solution(world)), "greatest " + nest_text(greatest_solution(world))]
            self.assertEqual(judged("\n".join(sheet)), (True, True))

    def test_prices_and_houses(self):
        """What is dearest is what a HOUSE goes for."""
        for world in some_worlds():
            if world[0] in ("plan", "net", "streets"):
                many = len(world[1]) if world[0] == "plan" else world[1] if world[0] == "net" else len(least_solution(world))
                weights = tuple((thing, (7 * thing + 3) % 11 - 5) for thing in range(many))
                least, prices = turn_prices(world, weights)
                for call, worths in ((dearest_solution, prices), (cheapest_solution, tuple(-price for price in prices))):
                    house = house_of(world)
                    house.go_for(worths)
                    self.assertEqual((standing(world, house), house.stands), (call(world, weights), least_dearest(order_of(world), worths)))
                    self.assertEqual(price_of(world, weights, standing(world, house)), least + sum(prices[number] for number in house.stands))
                    self.assertLessEqual(set(house.stands), set(greatest_dearest(order_of(world), worths)))

    def test_pins_and_houses_and_counts(self):
        for order in small_orders():
            for inside, outside in itertools.product([()] + [(item,) for item in range(order[0])], repeat=2):
                house, stood = House(order), lowers(order)[-1]
                house.go(stood)
                for word, lot in (("in", inside), ("out", outside)):
                    for item in lot:
                        raised(call_of(house, word), item)
                pins = house.pins
                self.assertEqual((house.sure_in(), house.sure_out()), (sure_in(order, pins), sure_out(order, pins)))
                self.assertEqual((house.left(), sum(sizes(order, pins))), (how_many(order, pins),) * 2)
                self.assertEqual(house.stands, nearest(order, pins, stood))

    def test_orders_by_papers_texts_and_numbers(self):
        for order in small_orders():
            many = how_many(order, FREE)
            self.assertEqual((check_count(order, count_paper(order)), len(all_lowers(order))), (many, many))
            self.assertEqual(read_order(nest_text(order)), order)
            self.assertEqual(how_many(about(order), FREE), many)
            self.assertEqual(tuple(lower_at(order, number) for number in range(many)), all_lowers(order))

    def test_told_things_may_be_passed_on(self):
        for term in terms(40):
            text = nest_text(term)
            self.assertEqual((read_term(text), read_nest(text), Desk(text).term), (term,) * 3)
            order = order_by(term)
            for lower in all_lowers(order)[:5]:
                solution = solution_by(term, lower)
                self.assertEqual((lower_by(term, solution), read_nest(nest_text(solution))), (lower, solution))
                house = led(order, (("go", lower),))
                self.assertEqual(led(house.order, house.acts), house)

    def test_asked_twice_and_nothing_changed(self):
        order = (3, ((0, 1), (0, 2)))
        first, second = as_plan(order), as_net(order)
        kept = copy.deepcopy((order, first, second))
        calls = [
            (as_plan, order), (as_net, order), (as_pairs, order), (count_paper, order), (how_many, order, FREE), (led_over, first, second, (1, 1, 0)),
            (led_over, first, second, (0, 1, 0)), (order_by, ("world", first)), (order_by, ("pinned", ("world", first), (4,), ())), (nest_text, order),
            (read_term, "( world 0 )"), (judged, "0\n"), (lower_at, order, 99), (is_solution, first, (1, 1, 1)), (led, order, (("do", 0),)),
            (led, order, (("do", 1),)), (solution_count, first), (dearest_solution, first, ((0, 1),)), (house_of, second),
        ]
        for call, *args in calls:
            once = raised(call, *args)
            self.assertEqual(raised(call, *args), once)
            self.assertEqual(raised(call, *copy.deepcopy(args)), once)
        self.assertEqual((order, first, second), kept)


if __name__ == "__main__":
    unittest.main()
