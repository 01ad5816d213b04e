import copy
import inspect
import unittest

from lightrules import crossings
from lightrules.crossings import are_comings, family, is_crossing, is_rule
from tests.samples import CROSSINGS, NO_COMINGS, NO_CROSSINGS, NO_RULES, RULES, rules_with

WORDS = ("asked", "clock", "due", "empty", "gap", "longer")

# As [0.5] tells them, in Python's order.
FAMILY = [
    ("asked", 1), ("asked", 2), ("asked", 3),
    ("clock", 1, 1), ("clock", 1, 2), ("clock", 1, 3),
    ("clock", 2, 1), ("clock", 2, 2), ("clock", 2, 3),
    ("clock", 3, 1), ("clock", 3, 2), ("clock", 3, 3),
    ("due", 1), ("due", 2), ("due", 3),
    ("empty", 2), ("empty", 3), ("empty", 4),
    ("gap", 1, 3), ("gap", 1, 4), ("gap", 2, 3), ("gap", 2, 4),
    ("longer", 1), ("longer", 2), ("longer", 3),
]


class InterfaceTest(unittest.TestCase):
    def test_functions_stand_in_this_module_with_their_arguments(self):
        expected = {"is_crossing": ["candidate"], "is_rule": ["candidate"],
                    "are_comings": ["candidate"], "family": []}
        for name, names in expected.items():
            with self.subTest(name=name):
                found = getattr(crossings, name)
                self.assertEqual(found.__module__, "lightrules.crossings")
                self.assertEqual(list(inspect.signature(found).parameters), names)


class CandidatesTest(unittest.TestCase):
    def check_all(self, function, candidates, expected):
        for candidate in candidates:
            with self.subTest(candidate=shown(candidate)):
                before = copy.deepcopy(candidate)
                self.assertIs(function(candidate), expected)
                self.assertIs(function(candidate), expected)
                self.assertEqual(candidate, before)

    def test_crossings(self):
        self.assertEqual(len(CROSSINGS), 9)
        self.check_all(is_crossing, CROSSINGS, True)

    def test_no_crossings(self):
        self.check_all(is_crossing, NO_CROSSINGS, False)

    def test_rooms_and_pauses_at_the_ends_and_one_beyond(self):
        self.check_all(is_crossing, [(1, 0), (3, 0), (1, 2), (3, 2)], True)
        self.check_all(is_crossing, [(0, 0), (4, 0), (1, -1), (1, 3), (0, 3), (4, -1)], False)

    def test_booleans_are_no_rooms_and_no_pauses(self):
        self.check_all(is_crossing, [(True, 0), (1, False), (1, True), (True, True)], False)

    def test_example(self):
        self.assertIs(is_rule(("clock", 0, 1)), False)

    def test_rules(self):
        self.assertEqual(len(RULES), 48)
        self.check_all(is_rule, RULES, True)

    def test_rules_of_the_family_are_rules(self):
        self.check_all(is_rule, FAMILY, True)

    def test_no_rules(self):
        self.check_all(is_rule, NO_RULES, False)

    def test_numbers_of_rules_at_the_ends_and_one_beyond(self):
        for word in WORDS:
            self.check_all(is_rule, rules_with(word, 1) + rules_with(word, 4), True)
            self.check_all(is_rule, rules_with(word, 0) + rules_with(word, 5), False)
            self.check_all(is_rule, rules_with(word, -1), False)

    def test_booleans_and_others_are_no_numbers_of_rules(self):
        for word in WORDS:
            for number in (True, False, None, "1", [1], (1,)):
                self.check_all(is_rule, rules_with(word, number), False)

    def test_rules_that_are_too_short_or_too_long(self):
        for word in WORDS:
            self.check_all(is_rule, [(word,), (word, 1, 1, 1)], False)
        for word in ("asked", "due", "empty", "longer"):
            self.check_all(is_rule, [(word, 1, 1)], False)
        for word in ("clock", "gap"):
            self.check_all(is_rule, [(word, 1)], False)

    def test_gap_and_clock_ask_for_no_order_of_their_numbers(self):
        self.check_all(is_rule, [("gap", 4, 1), ("gap", 2, 2), ("clock", 4, 1)], True)

    def test_comings(self):
        self.check_all(are_comings, [[], [0], [1], [2], [3], [0, 1, 2, 3], [3, 3]], True)

    def test_no_comings(self):
        self.check_all(are_comings, NO_COMINGS, False)

    def test_lists_of_40_and_of_41_comings(self):
        for coming in (0, 1, 2, 3):
            self.check_all(are_comings, [[coming] * 39, [coming] * 40], True)
            self.check_all(are_comings, [[coming] * 41, [coming] * 42], False)

    def test_booleans_are_no_comings(self):
        self.check_all(are_comings, [[True], [False], [0, 1, True], [False, 0]], False)

    def test_a_crossing_a_rule_and_comings_are_not_each_other(self):
        self.check_all(is_crossing, [("asked", 2), [2, 1]], False)
        self.check_all(is_rule, [(2, 1), [2, 1]], False)
        self.check_all(are_comings, [(2, 1), ("asked", 2)], False)


class FamilyTest(unittest.TestCase):
    def test_the_25_rules(self):
        self.assertEqual(len(FAMILY), 25)
        self.assertIsInstance(family(), list)
        self.assertEqual(family(), FAMILY)

    def test_it_is_ascending(self):
        self.assertEqual(family(), sorted(set(family())))

    def test_numbers_are_integers(self):
        for rule in family():
            with self.subTest(rule=rule):
                self.assertIs(type(rule), tuple)
                self.assertEqual([type(part) for part in rule], [str] + [int] * (len(rule) - 1))

    def test_a_new_list_at_each_call(self):
        one = family()
        self.assertIsNot(one, family())
        one.reverse()
        one.pop()
        self.assertEqual(family(), FAMILY)


def shown(candidate):
    # repr refuses integers of more than 4300 digits, which are among the candidates.
    try:
        return repr(candidate)
    except ValueError:
        return "a very long integer"


if __name__ == "__main__":
    unittest.main()
