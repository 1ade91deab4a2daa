"""What holds of all functions: errors in the turn of the arguments, nothing changed, equal calls alike."""

import copy
import importlib
import unittest

from helper import Same, Thing, is_plain, junk, raised, square, strange, swapped_pairs, turning_pairs

ORDER = (4, ((0, 1), (1, 2)))
WORTHS = (-2, 5, -1, 0)
PINS = ((1,), ())
WEIGHTS = ((0, 3), (1, -2))
PAIRS = turning_pairs(3)
TOWN = ("streets", 2, 2, (1, 1, 1, 1, 4, 1, 1, 1, 1))
PLAN = ("plan", ((0, 2), (0, 2)), ((0, 1, 0),))
TERM = ("about", ("pinned", ("world", PLAN), (0,), ()))
# The LEAST and the GREATEST SOLUTION of TOWN.
WAYS = (1, 1, 0, 1, 0, 0, 0, 0, 1, 0, 1, 1)
HIGH = (0, 0, 0, 1, 1, 1, 1, 0, 0, 1, 1, 0)
FIELD = square(2, 2)
LAID = (((0, 0), (0, 1)), ((1, 0), (1, 1)))
FLOOR = ("floor", FIELD)
NET = ("net", 4, ((0, 1, 2), (1, 2, 2), (2, 1, 1), (2, 3, 2)))
FLOW = (2, 2, 0, 2)
# What lies as low as can be: it can be shifted by none of the integers among the values of every kind.
LOW = ("plan", ((-1000, -999),), ())
HEIGHTS = (((0, 0), 0), ((0, 1), 1), ((0, 2), 0), ((1, 0), -1), ((1, 1), -2), ((1, 2), -1), ((2, 0), 0), ((2, 1), 1), ((2, 2), 0))
# For each function arguments that are right, and the word of the error of each, without Bad; "-" for one of anything.
RIGHT = {
    "orders": {
        "need_order": ["Order", ORDER], "is_ahead": ["Order Item Item", ORDER, 0, 1], "closed_form": ["Order", ORDER],
        "bare_form": ["Order", ORDER], "are_like": ["Order Order", ORDER, ORDER],
    },
    "lowers": {
        "is_lower": ["Order -", ORDER, (0,)], "can_put": ["Order Lower", ORDER, (0,)], "can_take": ["Order Lower", ORDER, (0,)],
        "put": ["Order Lower Item", ORDER, (0,), 1], "taken": ["Order Lower Item", ORDER, (0,), 0],
        "meet": ["Order Lower Lower", ORDER, (0,), (3,)], "join": ["Order Lower Lower", ORDER, (0,), (3,)],
        "all_lowers": ["Order", ORDER],
    },
    "lots": {name: ["Order Lot", ORDER, (1, 2)] for name in ("head", "foot", "ground", "is_loose")},
    "sums": {
        "about": ["Order", ORDER], "beside": ["Order Order", ORDER, ORDER], "under": ["Order Order", ORDER, ORDER],
        "narrowed": ["Order Lot", ORDER, (1, 3)],
    },
    "likeness": {"leads": ["Order Order", ORDER, ORDER], "how_many_leads": ["Order", ORDER]},
    "streets": {
        "street_ends": ["Size Size", 2, 2], "street_sides": ["Size Size", 2, 2], "outs_of": ["Size Size Ways", 2, 2, WAYS],
        "streets_paper": ["Size Size Outs", 2, 2, TOWN[3]], "check_streets": ["Size Size Outs Paper", 2, 2, TOWN[3], ("ways", WAYS)],
    },
    "worlds": {
        "need_world": ["World", PLAN], "is_solution": ["World -", PLAN, (0, 0)], "least_solution": ["World", PLAN],
        "greatest_solution": ["World", PLAN], "turns": ["World", PLAN], "order_of": ["World", PLAN],
        "lower_of": ["World Solution", PLAN, (1, 0)], "solution_of": ["World Lower", PLAN, (0,)],
        "can_turn": ["World Solution", PLAN, (1, 0)], "turned": ["World Solution Turn", PLAN, (1, 0), 1],
        "all_solutions": ["World", PLAN],
    },
    "pairings": {
        "is_pairing": ["World -", PAIRS, (0, 1, 2)], "breaking_pairs": ["World Pairing", PAIRS, (0, 2, 1)],
        "next_of": ["World Solution One", PAIRS, (0, 1, 2), 1], "rings": ["World Solution", PAIRS, (0, 1, 2)],
    },
    "asking": {
        "asks": ["World First", PAIRS, (2, 0, 1)], "possible_pairs": ["World", PAIRS], "sure_pairs": ["World", PAIRS],
    },
    "pairabout": {
        "pairs_about": ["World", PAIRS], "pairing_about": ["World Pairing", PAIRS, (0, 2, 1)],
        "tops_turned": ["World One Row", PAIRS, 1, ()],
    },
    "blocks": {
        "rim": ["World Blocks", TOWN, (0, 1)], "can_go_round": ["World Solution Blocks", TOWN, WAYS, (0,)],
        "can_go_back": ["World Solution Blocks", TOWN, WAYS, (0,)], "heights": ["World Solution", TOWN, WAYS],
        "gone_round": ["World Solution Blocks", TOWN, WAYS, (0, 1, 2, 3)], "at_heights": ["World Heights", TOWN, (1, 1, 1, 1)],
    },
    "streetgroups": {
        "sure_streets": ["World", TOWN], "groups": ["World", TOWN], "still_blocks": ["World", TOWN],
        "height_paper": ["World Block", TOWN, 2], "check_height": ["World Block Paper", TOWN, 0, ("walk", (0,), HIGH)],
    },
    "plans": {
        "plan_paper": ["Spans Bounds", PLAN[1], PLAN[2]], "check_plan": ["Spans Bounds Paper", PLAN[1], PLAN[2], ("times", (0, 0))],
        "reach": ["World Place Place", PLAN, None, 0], "late_paper": ["World Job", PLAN, 1], "early_paper": ["World Job", PLAN, 1],
        "check_time": ["World Job Paper", PLAN, 1, ("late", (None, 1), (2, 2))],
    },
    "jobgroups": {
        "job_groups": ["World", PLAN], "still_jobs": ["World", PLAN], "sure_gaps": ["World", PLAN],
        "can_go_later": ["World Solution Jobs", PLAN, (0, 0), (0,)], "gone_later": ["World Solution Jobs", PLAN, (0, 0), (0,)],
    },
    "planabout": {
        "plan_about": ["World", PLAN], "times_about": ["World Solution", PLAN, (1, 0)], "plan_shifted": ["World Shift", LOW, 1],
        "idle_bounds": ["World", PLAN], "without_bound": ["World Bound", PLAN, 0],
    },
    "tiles": {
        "blocks_of": ["Field", FIELD], "way_of": ["Field Laying Block", FIELD, LAID, (0, 0)],
        "block_turned": ["Field Laying Block", FIELD, LAID, (0, 0)], "standing_in": ["Field Laying", FIELD, LAID],
        "times_of": ["World Solution Block", FLOOR, LAID, (0, 0)],
    },
    "heights": {
        "points_of": ["Field", FIELD], "heights_of": ["Field Laying", FIELD, LAID], "laying_at": ["Field Heights", FIELD, HEIGHTS],
        "border_heights": ["Field", FIELD], "greatest_heights": ["World", FLOOR],
        "flat_meet": ["World Solution Solution", FLOOR, LAID, LAID], "flat_join": ["World Solution Solution", FLOOR, LAID, LAID],
    },
    "nets": {
        "width_of": ["World Side", NET, (0, 2)], "least_width": ["World", NET], "net_paper": ["World", NET],
        "check_net": ["World Paper", NET, ((0, 1), FLOW)],
    },
    "leads": {
        "flow_sum": ["World Flow", NET, FLOW], "does_lead": ["World Flow Place Place", NET, FLOW, 1, 2],
        "always_in": ["World", NET], "never_in": ["World", NET], "pieces": ["World", NET], "piece_ahead": ["World Place", NET, 1],
    },
    "pipes": {
        "out_of_some": ["World", NET], "out_of_all": ["World", NET], "with_room": ["World Pipe Room", NET, 1, 7],
        "room_line": ["World Pipe", NET, 1],
    },
    "shortways": {
        "far_from": ["Order Lower Lower", ORDER, (0,), (0, 3)], "is_way": ["Order -", ORDER, ((0,),)],
        "is_short": ["Order -", ORDER, ((0,),)], "first_way": ["Order Lower Lower", ORDER, (0,), (0, 3)],
        "way_count": ["Order Lower Lower", ORDER, (0,), (0, 3)], "way_at": ["Order Lower Lower Number", ORDER, (0,), (0, 3), 0],
        "ways_through": ["Order Lower Lower Lower", ORDER, (0,), (0, 3), ()],
    },
    "betweens": {
        "is_between": ["Order Lower Lower Lower", ORDER, (0,), (0, 1), ()], "middle": ["Order Lower Lower Lower", ORDER, (0,), (0, 1), ()],
        "all_between": ["Order Lower Lower", ORDER, (0,), (0, 3)],
    },
    "rounds": {
        "is_round": ["Order Lower -", ORDER, (0,), (3,)], "fewest_rounds": ["Order Lower Lower", ORDER, (0,), (0, 1, 2)],
        "rounds_paper": ["Order Lower Lower Number", ORDER, (0,), (0, 3), 1],
        "check_rounds": ["Order Lower Lower Number Paper", ORDER, (0,), (0, 3), 1, ("rounds", ((3,),))],
    },
    "nearests": {
        "nearest_ends": ["Order Lowers", ORDER, ((0,), ())], "least_sum": ["Order Lowers", ORDER, ((0,), ())],
        "sum_from": ["Order Lowers Lower", ORDER, ((0,), ()), (3,)], "between_ends": ["Order Lowers", ORDER, ((0,), ())],
        "is_by_middles": ["Order Lowers Lower", ORDER, ((0,), ()), (3,)], "farthest_ends": ["Order Lower", ORDER, (3,)],
    },
    "worths": {
        "need_worths": ["Order Worths", ORDER, WORTHS], "worth_of": ["Order Worths Lower", ORDER, WORTHS, (3,)],
        "greatest_worth": ["Order Worths", ORDER, WORTHS], "is_dearest": ["Order Worths Lower", ORDER, WORTHS, (3,)],
        "least_dearest": ["Order Worths", ORDER, WORTHS], "greatest_dearest": ["Order Worths", ORDER, WORTHS],
    },
    "dearpapers": {
        "is_flow": ["Order Worths -", ORDER, WORTHS, ((1, 0, 2),)], "dear_paper": ["Order Worths Integer", ORDER, WORTHS, 3],
        "check_dear": ["Order Worths Integer Paper", ORDER, WORTHS, 2, ("dear", (0, 1))],
    },
    "dearties": {"dearest_groups": ["Order Worths", ORDER, WORTHS], "dearest_by": ["Order Worths Lot", ORDER, WORTHS, (0,)]},
    "falls": {
        "levels": ["Order Worths", ORDER, WORTHS], "fall_of": ["Order Worths", ORDER, WORTHS], "carry_for": ["Order Worths", ORDER, WORTHS],
        "made_by": ["Order Worths Carry", ORDER, WORTHS, ((0, 1, (7, 2)),)],
        "does_fall": ["Order Worths Carry", ORDER, WORTHS, ((0, 1, (7, 2)),)],
    },
    "prices": {
        "need_weights": ["World Weights", PLAN, WEIGHTS], "price_of": ["World Weights Solution", PLAN, WEIGHTS, (1, 0)],
        "turn_prices": ["World Weights", PLAN, WEIGHTS], "dearest_solution": ["World Weights", PLAN, WEIGHTS],
        "cheapest_solution": ["World Weights", PLAN, WEIGHTS],
    },
    "pins": {
        "do_clash": ["Order Pins", ORDER, PINS], "does_fit": ["Order Pins Lower", ORDER, PINS, (0,)], "sure_in": ["Order Pins", ORDER, PINS],
        "sure_out": ["Order Pins", ORDER, PINS], "open_items": ["Order Pins", ORDER, PINS],
        "nearest": ["Order Pins Lower", ORDER, PINS, (0,)],
    },
    "counts": {
        "how_many": ["Order Pins", ORDER, PINS], "sizes": ["Order Pins", ORDER, PINS], "chance": ["Order Pins Item", ORDER, PINS, 2],
        "four_of": ["Order Pins Item Item", ORDER, PINS, 2, 0],
    },
    "countpapers": {
        "count_paper": ["Order", ORDER],
        "check_count": ["Order Paper", ORDER, ("apart", ((0, 1, 2), (3,)), (("row",), ("item", 0, ("loose",), ("row",))))],
    },
    "numbers": {
        "number_of": ["Order Lower", ORDER, (0, 3)], "lower_at": ["Order Number", ORDER, 7],
        "solution_number": ["World Solution", PLAN, (1, 0)], "solution_at": ["World Number", PLAN, 3], "solution_count": ["World", PLAN],
    },
    "asks": {
        "best_ask": ["Order Pins", ORDER, PINS], "fewest_asks": ["Order Pins", ORDER, PINS], "ask_tree": ["Order Pins", ORDER, PINS],
        "check_asks": ["Order Pins Paper", ORDER, ((1,), (3,)), ("ask", 2, ("is", (0, 1, 2)), ("is", (0, 1)))],
    },
    "stairs": {
        "is_map": ["Order Number -", ORDER, 3, (0, 0, 1, 0)], "is_strict": ["Order Number -", ORDER, 3, (0, 1, 2, 0)],
        "map_count": ["Order Number", ORDER, 3], "strict_count": ["Order Number", ORDER, 3], "falls": ["Order", ORDER], "line": ["Order", ORDER],
    },
    "aspairs": {"edges_of": ["Order", ORDER], "as_pairs": ["Order", ORDER], "turn_items": ["Order", ORDER]},
    "asothers": {"as_plan": ["Order", ORDER], "as_net": ["Order", ORDER]},
    "leading": {
        "are_turned_alike": ["World World", PLAN, PLAN], "led_over": ["World World Solution", PLAN, PLAN, (1, 0)],
        "alike_paper": ["World World", PLAN, PLAN], "check_alike": ["World World Paper", PLAN, PLAN, ("alike", (0, 2, 1, 3))],
    },
    "terms": {
        "need_term": ["Term", TERM], "order_by": ["Term", TERM], "kids_of": ["Term", TERM], "is_term_solution": ["Term -", TERM, (1, 0)],
        "lower_by": ["Term Solution", TERM, (1, 0)], "solution_by": ["Term Lower", TERM, (0,)],
    },
    "floors": {
        "need_field": ["Field", FIELD], "is_laying": ["Field -", FIELD, LAID], "all_layings": ["Field", FIELD],
        "laying_paper": ["Field", FIELD], "check_laying": ["Field Paper", FIELD, ("laid", LAID)],
    },
}
# What has tests of its own: it takes or tells HOUSES, or takes strings.
OTHERS = {
    "house": "House under led", "worldhouses": "house_of standing go_to solutions_left", "texts": "nest_text read_nest read_term read_order",
    "judge": "judged", "desk": "Desk",
}


def rows():
    """For each function its full name, itself, its errors, and right arguments."""
    for module, functions in RIGHT.items():
        found = importlib.import_module("turnsall." + module)
        for name, (words, *args) in functions.items():
            yield module + "." + name, getattr(found, name), words.split(), args


class Everywhere(unittest.TestCase):

    def test_right_arguments(self):
        for name, call, _, args in rows():
            kind, told = raised(call, *args)
            self.assertIsNone(kind, (name, told))
            self.assertTrue(is_plain(told), name)
            self.assertEqual(raised(call, *args), (None, told), name)
            # The same values in other objects come to the same.
            self.assertEqual(raised(call, *strange(tuple(args))), (None, told), name)

    def test_functions_stand_in_their_files(self):
        for name, call, words, args in rows():
            self.assertEqual(call.__module__ + "." + call.__name__, "turnsall." + name)
            self.assertEqual(call.__code__.co_argcount, len(args))
            self.assertEqual(len(words), len(args))

        for module, names in OTHERS.items():
            found = importlib.import_module("turnsall." + module)
            for name in names.split():
                self.assertEqual(getattr(found, name).__module__, "turnsall." + module)

    def test_wrong_arguments_in_their_turn(self):
        """Each argument wrong, all ahead of it right, all behind it wrong, too."""
        zero = 0
        for name, call, words, args in rows():
            for spot, word in enumerate(words):
                if word == "-":
                    continue
                for value in junk():
                    if word == "Integer" and type(value) is int:
                        continue
                    kind, fields = raised(call, *args[:spot], value, *[Thing()] * (len(args) - spot - 1))
                    self.assertEqual(kind, "Bad" + word.replace("Integer", "Number"), (name, spot, value))
                    if word in ("Order", "World", "Paper"):
                        # Two of these values are pairs.
                        part = "form"
                        if isinstance(value, tuple) and len(value) == 2:
                            part = "pairs" if value[0] is zero else "many"
                            if word != "Order":
                                part = "side" if (name, word) == ("nets.check_net", "Paper") else "form"
                        self.assertEqual(fields, {"part": part})
                    elif word == "Term":
                        self.assertEqual(fields, {"path": ()})
                    else:
                        self.assertEqual(list(fields), ["given"])
                        self.assertIs(fields["given"], value)

    def test_each_error_ahead_of_too_many(self):
        for name, call, words, args in rows():
            if words[0] == "World":
                due = ("TooMany", {"most": 20})
                many = swapped_pairs(21) if args[0] is PAIRS else ("plan", ((0, 21),), ()) if args[0] in (PLAN, LOW) else None
                if many is not None:
                    self.assertEqual(raised(call, many, *[Same()] * (len(args) - 1)), due, name)

    def test_nothing_is_changed(self):
        values = [[1, [2]], {"a": [3]}, [0, 1], {0: {}}]
        for name, call, words, args in rows():
            for spot in range(len(args)):
                for value in values:
                    passed = copy.deepcopy(value)
                    raised(call, *args[:spot], passed, *args[spot + 1:])
                    self.assertEqual(passed, value, name)

    def test_deep_and_wide_values(self):
        deep = ()
        for _ in range(59):
            deep = (deep,)
        wide = tuple(range(19000))
        text = "".join(chr(32 + spot % 5) for spot in range(20000))
        row = (0,) * 100
        shared = row
        for _ in range(20):
            shared = (shared,) * 9
        seen = set()
        for name, call, words, args in rows():
            for spot, word in enumerate(words):
                # What would grow beyond all bounds takes long to be refused: once for each kind of argument is enough.
                grown = [] if word in seen else [shared]
                seen.add(word)
                for value in [deep, wide, text, (wide, text)] + grown:
                    kind = raised(call, *args[:spot], value, *args[spot + 1:])[0]
                    self.assertEqual(kind, None if word == "-" else "Bad" + word.replace("Integer", "Number"), (name, spot))


if __name__ == "__main__":
    unittest.main()
