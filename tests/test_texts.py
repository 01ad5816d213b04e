import itertools
import unittest

from lightrules import texts
from lightrules.crossings import family
from lightrules.errors import InvalidComings, InvalidLights, InvalidRule, ParseError
from lightrules.texts import (
    format_comings, format_lights, format_rule, parse_comings, parse_lights, parse_rule,
)
from tests.checks import Checks
from tests.samples import NO_COMINGS, NO_LIGHTS, NO_RULES, NO_STRINGS, OTHER_SIGNS, RULES
from tests.test_ticks import long_rows

NO_COMINGS_TEXTS = [
    "4", "5", "9", "-", "-1", "01-", "0 1", " 0", "0 ", "0  1", " ", "\n", "0\n", "\n0", "0\n1", "0\r\n",
    "+1", "1.0", "0,1", "[0, 1]", "0x1", "1_2", "one", "None", "0" * 41, "3" * 41, "0123" * 11,
    "0" * 40 + "\n", "0" * 40 + " ", "0" * 39 + "4", "0" * 1000,
]

NO_LIGHTS_TEXTS = [
    "2", "3", "01-2", "0 1", " 0", "0 ", "- ", " -", "--\n", "\n", " ", "_", "None", "0,1", "[0]", "+0",
    "0" * 41, "1" * 41, "-" * 41, "-" * 40 + "\n", "-" * 40 + " ", "-" * 39 + "2", "-" * 1000,
]

NO_RULES_TEXTS = [
    "", " ", "\n", "clock", "clock ", "clock 2", "clock 2 ", "clock 2 1 1", "clock  2 1", "clock 2  1",
    " clock 2 1", "clock 2 1 ", "clock 2 1\n", "\nclock 2 1", "clock\t2 1", "clock 2\n1", "clock\n2\n1",
    "Clock 2 1", "CLOCK 2 1", "clocK 2 1", "clock 02 1", "clock 2 01", "clock +2 1", "clock 2 -1",
    "clock 0 1", "clock 2 0", "clock 5 1", "clock 2 5", "clock 12 1", "clock 2.0 1", "clock 2 1.",
    "clock,2,1", "clock, 2, 1", "clock 2,1", "clock 21", "clock2 1", "clock2 1 1", "2 1 clock", "2 clock 1",
    "('clock', 2, 1)", "\"clock\" 2 1", "clock two one", "clock II I", "clock 2 one", "clock 2 None",
    "asked", "asked ", "asked 0", "asked 5", "asked 10", "asked 01", "asked 1 1", "asked True", "asked -1",
    "asked1", "Asked 1", "asked 1 ", " asked 1", "asked  1", "asked 1\n", "asked 1.0", "asked 1_0",
    "due", "due 0", "due 5", "due 1 2", "empty", "empty 0", "empty 5", "empty 2 3", "longer", "longer 5",
    "longer 0", "longer 1 1", "gap", "gap 1", "gap 1 3 1", "gap 0 3", "gap 1 5", "gap 1  3",
    "rest 1", "ask 1", "askeds 1", "1", "1 2", "2 1", "asked asked 1", "asked 1 asked", "asked 1 due 1",
    "asked " + "1" * 5000, "a" * 1000, " " * 1000,
]

TEXT_OF = {rule: rule[0] + "".join(" " + "01234"[number] for number in rule[1:]) for rule in RULES}


class InterfaceTest(Checks, unittest.TestCase):
    def test_functions_stand_in_this_module_with_their_arguments(self):
        self.check_interface(texts, {
            "format_comings": ["comings"], "parse_comings": ["text"],
            "format_lights": ["lights"], "parse_lights": ["text"],
            "format_rule": ["rule"], "parse_rule": ["text"],
        })

    def test_examples(self):
        self.check_call("0-1", format_lights, [0, None, 1])
        self.check_call(("clock", 2, 1), parse_rule, "clock 2 1")

    def test_new_lists(self):
        for text in ("", "0", "01101"):
            self.check_new_list(parse_comings, text)
            self.check_new_list(parse_lights, text)


class ComingsTest(Checks, unittest.TestCase):
    def check_both(self, comings, text):
        self.check_call(text, format_comings, comings)
        self.check_call(comings, parse_comings, text)
        self.assertEqual({type(coming) for coming in parse_comings(text)} - {int}, set())

    def test_by_hand(self):
        self.check_both([], "")
        self.check_both([0], "0")
        self.check_both([3, 0, 1, 2], "3012")
        self.check_both([0] * 40, "0000000000000000000000000000000000000000")

    def test_all_short_comings(self):
        for length in range(5):
            for row in itertools.product(range(4), repeat=length):
                self.check_both(list(row), "".join("0123"[coming] for coming in row))

    def test_forty_and_fewer(self):
        for row in long_rows(5, 40):
            for many in range(41):
                self.check_both(row[:many], "".join("0123"[coming] for coming in row[:many]))

    def test_texts_of_nothing(self):
        for text in NO_COMINGS_TEXTS + NO_STRINGS + TEXT_OF_RULES:
            self.check_raises(ParseError, parse_comings, text)

    def test_other_signs_at_each_place(self):
        for sign in OTHER_SIGNS + ("4", "-"):
            for at in range(4):
                self.check_raises(ParseError, parse_comings, "012"[:at] + sign + "012"[at:])

    def test_each_sign_alone(self):
        for sign in map(chr, range(0x700)):
            if sign in "0123":
                self.check_both([int(sign)], sign)
            else:
                self.check_raises(ParseError, parse_comings, sign)

    def test_no_comings(self):
        for comings in NO_COMINGS:
            self.check_raises(InvalidComings, format_comings, comings)


class LightsTest(Checks, unittest.TestCase):
    def check_both(self, lights, text):
        self.check_call(text, format_lights, lights)
        self.check_call(lights, parse_lights, text)
        self.assertEqual({type(light) for light in parse_lights(text)} - {int, type(None)}, set())

    def test_by_hand(self):
        self.check_both([], "")
        self.check_both([None], "-")
        self.check_both([0, None, 1], "0-1")
        self.check_both([1, 0, None, None, 0], "10--0")
        self.check_both([None] * 40, "----------------------------------------")

    def test_all_short_lights(self):
        sign = {0: "0", 1: "1", None: "-"}
        for length in range(6):
            for row in itertools.product(sign, repeat=length):
                self.check_both(list(row), "".join(sign[light] for light in row))

    def test_forty_and_fewer(self):
        for row in long_rows(5, 40):
            lights = [None if coming > 1 else coming for coming in row]
            for many in range(41):
                self.check_both(lights[:many], "".join("01--"[coming] for coming in row[:many]))

    def test_texts_of_nothing(self):
        for text in NO_LIGHTS_TEXTS + NO_STRINGS + TEXT_OF_RULES:
            self.check_raises(ParseError, parse_lights, text)

    def test_other_signs_at_each_place(self):
        for sign in OTHER_SIGNS + ("2", "3"):
            for at in range(4):
                self.check_raises(ParseError, parse_lights, "0-1"[:at] + sign + "0-1"[at:])

    def test_each_sign_alone(self):
        for sign in map(chr, range(0x700)):
            if sign in "01-":
                self.check_both([{"0": 0, "1": 1, "-": None}[sign]], sign)
            else:
                self.check_raises(ParseError, parse_lights, sign)

    def test_no_lights(self):
        for lights in NO_LIGHTS:
            self.check_raises(InvalidLights, format_lights, lights)


class RulesTest(Checks, unittest.TestCase):
    def test_by_hand(self):
        self.check_call("asked 2", format_rule, ("asked", 2))
        self.check_call("gap 4 1", format_rule, ("gap", 4, 1))
        self.check_call(("gap", 4, 1), parse_rule, "gap 4 1")
        self.check_call(("longer", 4), parse_rule, "longer 4")

    def test_all_rules(self):
        self.assertEqual(len(set(TEXT_OF.values())), 48)
        self.assertEqual(set(family()) - set(TEXT_OF), set())
        for rule, text in TEXT_OF.items():
            self.check_call(text, format_rule, rule)
            self.check_call(rule, parse_rule, text)
            self.assertEqual([type(part) for part in parse_rule(text)], [str] + [int] * (len(rule) - 1))

    def test_texts_of_nothing(self):
        for text in NO_RULES_TEXTS + NO_STRINGS + ["0", "0-1", "3012"]:
            self.check_raises(ParseError, parse_rule, text)

    def test_texts_that_are_almost_right(self):
        for right in ("asked 2", "clock 2 1"):
            for at in range(len(right) + 1):
                for sign in OTHER_SIGNS + ("0", "1", "-", "A"):
                    self.check_text(right[:at] + sign + right[at:])
                    self.check_text(right[:at] + sign + right[at + 1:])
                self.check_text(right[:at])
                self.check_text(right[at:])
                self.check_text(right[:at] + right[at + 1:])

    def check_text(self, text):
        """Check that a text has the rule that has just this text, or that there is none."""
        for rule, expected in TEXT_OF.items():
            if text == expected:
                self.check_call(rule, parse_rule, text)
                return
        self.check_raises(ParseError, parse_rule, text)

    def test_no_rules(self):
        for rule in NO_RULES:
            self.check_raises(InvalidRule, format_rule, rule)


TEXT_OF_RULES = sorted(TEXT_OF.values())

if __name__ == "__main__":
    unittest.main()
