"""What holds of all functions: errors in the turn of the arguments, nothing changed, equal calls alike."""

import copy
import importlib
import unittest

from helper import Same, Thing, is_plain, junk, raised, square, strange, swapped_pairs, turning_pairs

ORDER = (4, ((0, 1), (1, 2)))
PAIRS = turning_pairs(3)
TOWN = ("streets", 2, 2, (1, 1, 1, 1, 4, 1, 1, 1, 1))
PLAN = ("plan", ((0, 2), (0, 2)), ((0, 1, 0),))
# The LEAST and the GREATEST SOLUTION of TOWN.
WAYS = (1, 1, 0, 1, 0, 0, 0, 0, 1, 0, 1, 1)
HIGH = (0, 0, 0, 1, 1, 1, 1, 0, 0, 1, 1, 0)
FIELD = square(2, 2)
LAID = (((0, 0), (0, 1)), ((1, 0), (1, 1)))
# For each function arguments that are right, and the word of the error of each, without Bad; "-" for one of anything.
RIGHT = {
    "orders": {
        "need_order": ["Order", ORDER], "is_ahead": ["Order Item Item", ORDER, 0, 1], "closed_form": ["Order", ORDER],
        "bare_form": ["Order", ORDER], "are_like": ["Order Order", ORDER, ORDER],
    },
    "lowers": {
        "is_lower": ["Order -", ORDER, (0,)], "can_put": ["Order Lower", ORDER, (0,)], "can_take": ["Order Lower", ORDER, (0,)],
        "put": ["Order Lower Item", ORDER, (0,), 1], "taken": ["Order Lower Item", ORDER, (0,), 0],
        "meet": ["Order Lower Lower", ORDER, (0,), (3,)], "join": ["Order Lower Lower", ORDER, (0,), (3,)],
        "all_lowers": ["Order", ORDER],
    },
    "lots": {name: ["Order Lot", ORDER, (1, 2)] for name in ("head", "foot", "ground", "is_loose")},
    "sums": {
        "about": ["Order", ORDER], "beside": ["Order Order", ORDER, ORDER], "under": ["Order Order", ORDER, ORDER],
        "narrowed": ["Order Lot", ORDER, (1, 3)],
    },
    "likeness": {"leads": ["Order Order", ORDER, ORDER], "how_many_leads": ["Order", ORDER]},
    "streets": {
        "street_ends": ["Size Size", 2, 2], "street_sides": ["Size Size", 2, 2], "outs_of": ["Size Size Ways", 2, 2, WAYS],
        "streets_paper": ["Size Size Outs", 2, 2, TOWN[3]], "check_streets": ["Size Size Outs Paper", 2, 2, TOWN[3], ("ways", WAYS)],
    },
    "worlds": {
        "need_world": ["World", PLAN], "is_solution": ["World -", PLAN, (0, 0)], "least_solution": ["World", PLAN],
        "greatest_solution": ["World", PLAN], "turns": ["World", PLAN], "order_of": ["World", PLAN],
        "lower_of": ["World Solution", PLAN, (1, 0)], "solution_of": ["World Lower", PLAN, (0,)],
        "can_turn": ["World Solution", PLAN, (1, 0)], "turned": ["World Solution Turn", PLAN, (1, 0), 1],
        "all_solutions": ["World", PLAN],
    },
    "pairings": {
        "is_pairing": ["World -", PAIRS, (0, 1, 2)], "breaking_pairs": ["World Pairing", PAIRS, (0, 2, 1)],
        "next_of": ["World Solution One", PAIRS, (0, 1, 2), 1], "rings": ["World Solution", PAIRS, (0, 1, 2)],
    },
    "asking": {
        "asks": ["World First", PAIRS, (2, 0, 1)], "possible_pairs": ["World", PAIRS], "sure_pairs": ["World", PAIRS],
    },
    "pairabout": {
        "pairs_about": ["World", PAIRS], "pairing_about": ["World Pairing", PAIRS, (0, 2, 1)],
        "tops_turned": ["World One Row", PAIRS, 1, ()],
    },
    "blocks": {
        "rim": ["World Blocks", TOWN, (0, 1)], "can_go_round": ["World Solution Blocks", TOWN, WAYS, (0,)],
        "can_go_back": ["World Solution Blocks", TOWN, WAYS, (0,)], "heights": ["World Solution", TOWN, WAYS],
        "gone_round": ["World Solution Blocks", TOWN, WAYS, (0, 1, 2, 3)], "at_heights": ["World Heights", TOWN, (1, 1, 1, 1)],
    },
    "streetgroups": {
        "sure_streets": ["World", TOWN], "groups": ["World", TOWN], "still_blocks": ["World", TOWN],
        "height_paper": ["World Block", TOWN, 2], "check_height": ["World Block Paper", TOWN, 0, ("walk", (0,), HIGH)],
    },
    "plans": {
        "plan_paper": ["Spans Bounds", PLAN[1], PLAN[2]], "check_plan": ["Spans Bounds Paper", PLAN[1], PLAN[2], ("times", (0, 0))],
        "reach": ["World Place Place", PLAN, None, 0], "late_paper": ["World Job", PLAN, 1], "early_paper": ["World Job", PLAN, 1],
        "check_time": ["World Job Paper", PLAN, 1, ("late", (None, 1), (2, 2))],
    },
    "floors": {
        "need_field": ["Field", FIELD], "is_laying": ["Field -", FIELD, LAID], "all_layings": ["Field", FIELD],
        "laying_paper": ["Field", FIELD], "check_laying": ["Field Paper", FIELD, ("laid", LAID)],
    },
}


def rows():
    """For each function its full name, itself, its errors, and right arguments."""
    for module, functions in RIGHT.items():
        found = importlib.import_module("turnsall." + module)
        for name, (words, *args) in functions.items():
            yield module + "." + name, getattr(found, name), words.split(), args


class Everywhere(unittest.TestCase):

    def test_right_arguments(self):
        for name, call, _, args in rows():
            kind, told = raised(call, *args)
            self.assertIsNone(kind, (name, told))
            self.assertTrue(is_plain(told), name)
            self.assertEqual(raised(call, *args), (None, told), name)
            # The same values in other objects come to the same.
            self.assertEqual(raised(call, *strange(tuple(args))), (None, told), name)

    def test_functions_stand_in_their_files(self):
        for name, call, words, args in rows():
            self.assertEqual(call.__module__ + "." + call.__name__, "turnsall." + name)
            self.assertEqual(call.__code__.co_argcount, len(args))
            self.assertEqual(len(words), len(args))

    def test_wrong_arguments_in_their_turn(self):
        """Each argument wrong, all ahead of it right, all behind it wrong, too."""
        zero = 0
        for name, call, words, args in rows():
            for spot, word in enumerate(words):
                if word == "-":
                    continue
                for value in junk():
                    kind, fields = raised(call, *args[:spot], value, *[Thing()] * (len(args) - spot - 1))
                    self.assertEqual(kind, "Bad" + word, (name, spot, value))
                    if word in ("Order", "World", "Paper"):
                        # Two of these values are pairs.
                        two = word == "Order" and isinstance(value, tuple) and len(value) == 2
                        self.assertEqual(fields, {"part": "form" if not two else "pairs" if value[0] is zero else "many"})
                    else:
                        self.assertEqual(list(fields), ["given"])
                        self.assertIs(fields["given"], value)

    def test_each_error_ahead_of_too_many(self):
        for name, call, words, args in rows():
            if words[0] == "World":
                due = ("TooMany", {"most": 20})
                many = swapped_pairs(21) if args[0] is PAIRS else ("plan", ((0, 21),), ()) if args[0] is PLAN else None
                if many is not None:
                    self.assertEqual(raised(call, many, *[Same()] * (len(args) - 1)), due, name)

    def test_nothing_is_changed(self):
        values = [[1, [2]], {"a": [3]}, [0, 1], {0: {}}]
        for name, call, words, args in rows():
            for spot in range(len(args)):
                for value in values:
                    passed = copy.deepcopy(value)
                    raised(call, *args[:spot], passed, *args[spot + 1:])
                    self.assertEqual(passed, value, name)

    def test_deep_and_wide_values(self):
        deep = ()
        for _ in range(59):
            deep = (deep,)
        wide = tuple(range(19000))
        text = "".join(chr(32 + spot % 5) for spot in range(20000))
        row = (0,) * 100
        shared = row
        for _ in range(20):
            shared = (shared,) * 9
        for name, call, words, args in rows():
            for spot, word in enumerate(words):
                for value in (deep, wide, text, (wide, text), shared):
                    kind = raised(call, *args[:spot], value, *args[spot + 1:])[0]
                    self.assertEqual(kind, None if word == "-" else "Bad" + word, (name, spot))


if __name__ == "__main__":
    unittest.main()
