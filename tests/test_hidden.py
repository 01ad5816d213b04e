import itertools
import unittest

from lightrules import hidden
from lightrules.comparing import parting_comings
from lightrules.crossings import family
from lightrules.errors import InvalidComings, InvalidCrossing, InvalidLights, InvalidRules, NoRule
from lightrules.hidden import best_coming, fewest_ticks
from lightrules.ticks import lights_along
from tests.checks import Checks
from tests.oracles import Plans, groups_behind, start_of
from tests.samples import (
    CROSSINGS, LIGHTS, NO_COMINGS, NO_CROSSINGS, NO_LIGHTS, NO_TOLD_RULES, RULES, told,
)

C = (2, 1)
PAIR = (("asked", 1), ("asked", 2))
TRIPLE = (("asked", 1), ("asked", 2), ("asked", 3))
ALIKE = (("asked", 3), ("gap", 3, 3), ("gap", 4, 3))

# (crossing, rules, fewest ticks, first coming), played by hand.
BY_HAND = [
    (C, PAIR, 2, 0),
    # A car on road 1 in tick 2 and, if no road changes, any in tick 3, in which it still waits.
    (C, TRIPLE, 3, 0),
    # A car on road 1, while line 0 is empty.
    (C, (("asked", 1), ("empty", 4)), 1, 2),
    (C, (("due", 1), ("empty", 1)), 1, 2),
    # Lights of clocks: 0-1- and 0-11, 00- and 0-.
    (C, (("clock", 1, 1), ("clock", 1, 2)), 4, 0),
    (C, (("clock", 1, 4), ("clock", 2, 1)), 2, 0),
    # 0000--111- and 0000--1111.
    ((3, 2), (("clock", 4, 3), ("clock", 4, 4)), 10, 0),
    # 01, 00 and 011: two are left behind the first of the changes.
    ((1, 0), (("clock", 1, 1), ("clock", 1, 2), ("clock", 2, 1)), 3, 0),
    # 0-11, 0-10 and 0-0: each has a light of its own in tick 3 or 4.
    ((1, 0), (("clock", 1, 1), ("clock", 1, 2), ("clock", 1, 3)), 4, 0),
    # A wait begins behind the coming, so the car must come early.
    (C, (("due", 3), ("due", 4)), 4, 2),
    # A car must pass in the tick ahead, lest the rest is 1, too.
    (C, (("asked", 1), ("gap", 1, 4)), 2, 1),
    # A road changes for a car that waits, so one passes in its first green tick. With one in the
    # very first tick, too, the rest is no longer what makes these change, and they are alike.
    (C, (("asked", 2), ("gap", 1, 2)), 1, 1),
    (C, (("asked", 3), ("gap", 2, 3)), 1, 1),
    (C, (("asked", 3), ("gap", 1, 3)), 2, 0),
    # These are alike but in the first tick, in which the age is 0.
    (C, (("asked", 1), ("empty", 1)), 1, 0),
    # Behind tick 2 the clock is found, or the other two are alike if a car passes in it.
    ((1, 0), (("asked", 3), ("clock", 1, 1), ("gap", 2, 3)), 2, 0),
]


class InterfaceTest(Checks, unittest.TestCase):
    def test_functions_stand_in_this_module_with_their_arguments(self):
        self.check_interface(hidden, {
            "fewest_ticks": ["crossing", "rules"],
            "best_coming": ["crossing", "rules", "comings", "lights"],
        })


class ByHandTest(Checks, unittest.TestCase):
    def test_examples(self):
        self.check_call(2, fewest_ticks, C, (("asked", 1), ("asked", 2)))
        self.check_call(0, best_coming, C, (("asked", 1), ("asked", 2)), [], [])

    def test_by_hand(self):
        for crossing, rules, ticks, coming in BY_HAND:
            self.check_call(ticks, fewest_ticks, crossing, rules)
            self.check_call(coming, best_coming, crossing, rules, [], [])

    def test_one_rule_is_found_at_once(self):
        for crossing in CROSSINGS:
            for rule in RULES:
                self.check_call(0, fewest_ticks, crossing, (rule,))
                self.check_call(None, best_coming, crossing, (rule,), [], [])
                lights = lights_along(crossing, rule, [2, 3, 0])
                self.check_call(None, best_coming, crossing, (rule,), [2, 3, 0], lights)

    def test_rules_with_the_same_lights_are_found_at_once(self):
        for crossing in CROSSINGS:
            for many in (1, 2, 3):
                for rules in itertools.combinations(ALIKE, many):
                    self.check_call(0, fewest_ticks, crossing, rules)
                    self.check_call(None, best_coming, crossing, rules, [], [])
                    self.check_call(None, best_coming, crossing, rules, [2, 2], [0, 0])

    def test_two_of_three_with_the_same_lights(self):
        # The wait 1 parts the third one in tick 2; then the rule is found up to the first two.
        rules = (("asked", 3), ("due", 1), ("gap", 3, 3))
        self.check_call(2, fewest_ticks, C, rules)
        self.check_call(2, best_coming, C, rules, [], [])
        self.check_call(0, best_coming, C, rules, [2], [0])
        self.check_call(2, best_coming, C, rules, [0], [0])
        self.check_call(None, best_coming, C, rules, [2, 0], [0, 0])
        self.check_call(None, best_coming, C, rules, [2, 0], [0, None])

    def test_further_ticks_by_hand(self):
        self.check_call(2, best_coming, C, PAIR, [0], [0])
        self.check_call(None, best_coming, C, PAIR, [0, 2], [0, None])
        self.check_call(None, best_coming, C, PAIR, [0, 2], [0, 0])
        self.check_call(2, best_coming, C, TRIPLE, [0], [0])
        self.check_call(None, best_coming, C, TRIPLE, [0, 2], [0, None])
        # The car on road 1 still waits.
        self.check_call(0, best_coming, C, TRIPLE, [0, 2], [0, 0])
        self.check_call(None, best_coming, C, TRIPLE, [0, 2, 0], [0, 0, 0])
        # Any of the rules changes if asked now: only at the age 1 of road 1 two are parted.
        self.check_call(2, best_coming, C, PAIR, [0, 0, 0], [0, 0, 0])
        self.check_call(0, best_coming, C, PAIR, [0, 0, 0, 2], [0, 0, 0, None])
        self.check_call(1, best_coming, C, PAIR, [0, 0, 0, 2, 0], [0, 0, 0, None, 1])
        # A car that waits on road 0 asks, too.
        self.check_call(0, best_coming, C, PAIR, [0, 0, 0, 3, 1], [0, 0, 0, None, 1])

    def test_rules_that_come_to_be_alike_are_found_without_being_parted(self):
        rules = (("asked", 3), ("gap", 2, 3))
        self.check_call(None, best_coming, C, rules, [1], [0])
        self.check_call(1, best_coming, C, rules, [0], [0])
        self.check_call(None, best_coming, C, rules, [0, 1], [0, 0])
        self.check_call(0, best_coming, C, rules, [0, 2], [0, 0])
        self.check_call(None, best_coming, C, rules, [0, 2, 0], [0, 0, None])
        rules = (("asked", 3), ("clock", 1, 1), ("gap", 2, 3))
        self.check_call(1, best_coming, (1, 0), rules, [0], [0])
        self.check_call(None, best_coming, (1, 0), rules, [0, 1], [0, 0])
        self.check_call(None, best_coming, (1, 0), rules, [0, 1], [0, 1])

    def test_thirty_nine_comings(self):
        self.check_call(2, best_coming, C, PAIR, [0] * 39, [0] * 39)
        self.check_call(None, best_coming, C, ALIKE, [0] * 39, [0] * 39)
        lights = lights_along(C, ("clock", 2, 1), [1] * 39)
        rules = (("clock", 2, 1), ("clock", 2, 2))
        self.check_call(None, best_coming, C, rules, [1] * 39, lights)


class PlansTest(Checks, unittest.TestCase):
    def test_two_rules_need_no_more_ticks_than_the_shortest_row_that_parts_them(self):
        pairs = list(itertools.combinations(sorted(RULES), 2))
        for at, crossing in enumerate(CROSSINGS):
            for one, other in pairs[at::4]:
                row = parting_comings(crossing, one, other, 3)
                ticks = fewest_ticks(crossing, (one, other))
                self.assertEqual(ticks == 0, row is None)
                self.assertTrue(row is None or ticks <= len(row))

    def test_two_rules_that_no_comings_make_alike(self):
        # Of the family, only "gap" and another rule come to be alike without being parted.
        for crossing in CROSSINGS:
            for rules in itertools.combinations([rule for rule in family() if rule[0] != "gap"], 2):
                row = parting_comings(crossing, rules[0], rules[1], 3)
                self.assertEqual(fewest_ticks(crossing, rules), len(row), (crossing, rules))
                self.assertEqual(best_coming(crossing, rules, [], []), row[0], (crossing, rules))

    def test_two_rules_as_a_search_with_a_state_for_each_rule_says(self):
        pairs = list(itertools.combinations(sorted(RULES), 2))
        for at, crossing in enumerate(((1, 0), (2, 1), (3, 2))):
            plans = Plans(crossing)
            for rules in pairs[at::3]:
                self.check_plans(plans, rules, start_of(rules), [], [], 0)

    def test_three_rules_as_a_search_with_a_state_for_each_rule_says(self):
        triples = list(itertools.combinations(sorted(RULES), 3))
        for at, crossing in enumerate(CROSSINGS):
            plans = Plans(crossing)
            for rules in triples[at * 31::1201] + [ALIKE, TRIPLE, told(("due", 1), *ALIKE[1:])]:
                self.check_plans(plans, rules, start_of(rules), [], [], 2)

    def check_plans(self, plans, rules, possible, comings, lights, further):
        """Check the best coming here and behind all that may be seen in so many further ticks."""
        if comings == []:
            self.assertEqual(fewest_ticks(plans.crossing, rules), plans.fewest(possible), rules)
        found = best_coming(plans.crossing, rules, comings, lights)
        self.assertEqual(found, plans.best(possible), (plans.crossing, rules, comings))
        for coming in range(4) if further > 0 else []:
            row = comings + [coming]
            for group in groups_behind(plans.crossing, possible, coming):
                seen = lights_along(plans.crossing, group[0][0], row)
                self.check_plans(plans, rules, group, row, seen, further - 1)

    def test_best_comings_find_each_hidden_rule_with_the_fewest_ticks(self):
        triples = list(itertools.combinations(sorted(RULES), 3))
        for at, crossing in enumerate(CROSSINGS):
            plans = Plans(crossing)
            for rules in triples[at * 3::701]:
                played = [self.ticks_until_found(plans, rules, rule) for rule in rules]
                self.assertEqual(max(played), fewest_ticks(crossing, rules), (crossing, rules))

    def ticks_until_found(self, plans, rules, hidden_rule):
        """Play best comings against a hidden rule; return with how many ticks it is found."""
        possible = start_of(rules)
        comings, lights = [], []
        coming = best_coming(plans.crossing, rules, comings, lights)
        while coming is not None:
            self.assertIs(type(coming), int)
            self.assertFalse(plans.is_found(possible))
            for group in groups_behind(plans.crossing, possible, coming):
                if hidden_rule in [rule for rule, _ in group]:
                    possible = group
            comings.append(coming)
            lights = lights_along(plans.crossing, hidden_rule, comings)
            coming = best_coming(plans.crossing, rules, comings, lights)
        self.assertTrue(plans.is_found(possible))
        return len(comings)


class ExceptionsTest(Checks, unittest.TestCase):
    def test_no_crossing(self):
        for crossing in NO_CROSSINGS:
            self.check_raises(InvalidCrossing, fewest_ticks, crossing, PAIR)
            self.check_raises(InvalidCrossing, best_coming, crossing, PAIR, [], [])

    def test_no_told_rules(self):
        for rules in NO_TOLD_RULES:
            self.check_raises(InvalidRules, fewest_ticks, C, rules)
            self.check_raises(InvalidRules, best_coming, C, rules, [], [])

    def test_all_orders_of_rules_but_the_ascending_one(self):
        for rules in (PAIR, TRIPLE, ALIKE, (("clock", 1, 2), ("due", 4), ("longer", 1))):
            self.check_raises(InvalidRules, fewest_ticks, C, list(rules))
            self.check_raises(InvalidRules, fewest_ticks, C, tuple(list(rule) for rule in rules))
            for order in itertools.permutations(rules):
                if order != rules:
                    self.check_raises(InvalidRules, fewest_ticks, C, order)
                    self.check_raises(InvalidRules, best_coming, C, order, [], [])

    def test_no_comings(self):
        for comings in NO_COMINGS:
            self.check_raises(InvalidComings, best_coming, C, PAIR, comings, [0])

    def test_forty_comings(self):
        for rules in (PAIR, TRIPLE, ALIKE, (("clock", 1, 1),)):
            for lights in ([0] * 40, lights_along(C, rules[0], [0] * 40), [], [2], None):
                self.check_raises(InvalidComings, best_coming, C, rules, [0] * 40, lights)

    def test_no_lights(self):
        for lights in NO_LIGHTS:
            self.check_raises(InvalidLights, best_coming, C, PAIR, [0], lights)
            self.check_raises(InvalidLights, best_coming, C, PAIR, [], lights)
            self.check_raises(InvalidLights, best_coming, C, ALIKE, [0], lights)

    def test_no_rule_shows_the_lights(self):
        for lights in ([1], [None]):
            self.check_raises(NoRule, best_coming, C, PAIR, [0], lights)
        self.check_raises(NoRule, best_coming, C, PAIR, [2], [None])
        self.check_raises(NoRule, best_coming, C, PAIR, [0, 2], [0, 1])
        self.check_raises(NoRule, best_coming, C, (("clock", 2, 1),), [0, 0, 0], [0, 0, 0])
        # ("empty", 2) would show them, but it is not told.
        self.check_raises(NoRule, best_coming, C, ALIKE, [2], [None])
        self.check_call(None, best_coming, C, (("asked", 1), ("empty", 2)), [2], [None])

    def test_no_rule_shows_as_many_lights_as_there_are_no_comings_for(self):
        for comings, lights in (([], [0]), ([0], []), ([0, 0], [0]), ([0], [0, 0]), ([0], [0] * 40)):
            self.check_raises(NoRule, best_coming, C, PAIR, comings, lights)
            self.check_raises(NoRule, best_coming, C, (("clock", 3, 3),), comings, lights)

    def test_the_first_one_is_raised_if_several_apply(self):
        for wrong in (None, True, "", [(None,)], 5, (0,)):
            self.check_raises(InvalidCrossing, fewest_ticks, wrong, wrong)
            self.check_raises(InvalidCrossing, best_coming, wrong, wrong, wrong, wrong)
            self.check_raises(InvalidCrossing, best_coming, wrong, PAIR, [], wrong)
            self.check_raises(InvalidRules, best_coming, C, wrong, wrong, wrong)
            self.check_raises(InvalidRules, best_coming, C, wrong, [0] * 40, [0])
            self.check_raises(InvalidRules, best_coming, C, wrong, [0], wrong)
            self.check_raises(InvalidComings, best_coming, C, PAIR, wrong, wrong)
            self.check_raises(InvalidComings, best_coming, C, PAIR, wrong, [1])
            self.check_raises(InvalidLights, best_coming, C, PAIR, [2], wrong)
        self.check_raises(InvalidCrossing, best_coming, (2, 3), PAIR, [0], [1])
        self.check_raises(InvalidRules, best_coming, C, PAIR[::-1], [0], [1])
        self.check_raises(InvalidLights, best_coming, C, PAIR, [0, 0], [1, 2])

    def test_all_lights_of_two_ticks(self):
        shown = [lights_along(C, rule, [0, 2]) for rule in PAIR]
        for lights in itertools.product(LIGHTS, repeat=2):
            if list(lights) in shown:
                self.check_call(None, best_coming, C, PAIR, [0, 2], list(lights))
            else:
                self.check_raises(NoRule, best_coming, C, PAIR, [0, 2], list(lights))


if __name__ == "__main__":
    unittest.main()
