import re
import unittest

from turnsall import errors

GIVEN = """NotAlike BadItem BadLot BadLower BadSolution BadTurn BadPairing BadOne BadFirst BadRow BadSize BadWays BadOuts
BadBlocks BadBlock BadHeights BadSpans BadBounds BadPlace BadJob BadJobs BadShift BadBound BadField BadLaying BadSide
BadFlow BadPipe BadRoom BadLowers BadNumber BadWorths BadWeights BadCarry BadPins BadHouse BadActs BadNest""".split()


class Errors(unittest.TestCase):

    def test_straight_under_turn_error(self):
        fields = {name: ["given"] for name in GIVEN}
        fields.update({"BadOrder": ["part"], "BadWorld": ["part"], "BadPaper": ["part"], "BadTerm": ["path"]})
        fields["BadText"] = ["line", "word"]
        for name, names in fields.items():
            error = getattr(errors, name)
            self.assertEqual(error.__bases__, (errors.TurnError,), name)
            things = [[name], {}][:len(names)]
            made = error(*things)
            self.assertEqual(vars(made), dict(zip(names, things)))
            self.assertIs(getattr(made, names[0]), things[0])
        self.assertEqual(errors.TurnError.__bases__, (ValueError,))

    def test_beside_turn_error(self):
        for name, base, field in (
            ("TooMany", OverflowError, "most"), ("Missing", KeyError, "given"), ("NothingLeft", RuntimeError, "many"),
        ):
            error = getattr(errors, name)
            self.assertEqual(error.__bases__, (base,))
            self.assertFalse(issubclass(error, errors.TurnError))
            for thing in (None, (), 3, "x", [1], object):
                self.assertEqual(vars(error(thing)), {field: thing})

    def test_turn_error_is_made_as_a_value_error(self):
        for things in ((), ("a",), ("a", 2, None)):
            self.assertEqual(str(errors.TurnError(*things)), str(ValueError(*things)))

    def test_no_name_is_left_out(self):
        with open(errors.__file__, encoding="utf-8") as file:
            text = file.read()
        names = re.findall(r"^class (\w+)", text, re.MULTILINE)
        others = ["BadOrder", "BadWorld", "BadPaper", "BadTerm", "BadText", "TurnError", "TooMany", "Missing", "NothingLeft"]
        self.assertEqual(sorted(names), sorted(GIVEN + others))

    def test_errors_of_any_things_can_be_shown(self):
        for thing in (None, [1], object(), errors):
            str(errors.BadItem(thing))
            repr(errors.BadText(thing, thing))


if __name__ == "__main__":
    unittest.main()
