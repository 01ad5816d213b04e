import itertools
import unittest

from lightrules import comparing
from lightrules.comparing import alike_lists, parting_comings
from lightrules.crossings import family
from lightrules.errors import InvalidCrossing, InvalidKind, InvalidRule
from lightrules.ticks import lights_along
from tests.checks import Checks
from tests.oracles import comings_of, listed_parting, parting, start_of
from tests.samples import CROSSINGS, KINDS, NO_CROSSINGS, NO_KINDS, NO_RULES, NUMBERS, RULES

C = (2, 1)
R = ("asked", 2)

# (crossing, one, other, kind, comings), played by hand.
BY_HAND = [
    (C, R, ("asked", 1), 3, [0, 2]),
    # Age 1 and a car on road 1 part the two; on road 0 alone no car ever asks.
    (C, R, ("asked", 1), 2, [0, 2]),
    (C, R, ("asked", 1), 1, None),
    (C, R, ("asked", 1), 0, None),
    ((1, 0), ("asked", 3), ("asked", 4), 3, [0, 0, 0, 2]),
    # A car on road 1 in the first tick, while line 0 is empty.
    (C, ("empty", 2), ("gap", 1, 3), 3, [2]),
    (C, ("empty", 2), ("gap", 1, 3), 1, None),
    # As [0.6] says, the first tick of a pause is dark, or the other road green at once.
    ((1, 0), ("clock", 1, 1), ("clock", 1, 2), 0, [0, 0, 0]),
    ((1, 1), ("clock", 1, 1), ("clock", 1, 2), 0, [0, 0, 0, 0]),
    ((1, 2), ("clock", 1, 1), ("clock", 1, 2), 3, [0, 0, 0, 0, 0]),
    # 0000--1111 and 0000--111-: the longest row of all is needed.
    ((3, 2), ("clock", 4, 4), ("clock", 4, 3), 3, [0] * 10),
    ((3, 2), ("clock", 4, 4), ("clock", 3, 4), 1, [0] * 4),
    # The wait begins a tick behind the coming, while age 1 is enough at once.
    (C, ("due", 1), ("asked", 1), 3, [0, 2]),
    (C, ("due", 3), ("due", 4), 3, [2, 0, 0, 0]),
    # Line 1 is no longer than line 0; without cars on road 0 it is longer whenever it is not empty.
    (C, ("longer", 1), ("asked", 1), 3, [0, 3]),
    (C, ("longer", 1), ("asked", 1), 2, None),
    # A tick in which a car passes ends the rest, but not the age.
    (C, ("gap", 1, 4), ("asked", 1), 3, [1, 2]),
    (C, ("gap", 1, 4), ("asked", 1), 2, None),
    (C, ("gap", 2, 4), ("asked", 4), 3, [0, 0, 2]),
    # With a car on road 0, too, its line is not empty, so the ages part the two.
    (C, ("empty", 1), ("empty", 2), 3, [0, 3]),
    ((3, 1), ("empty", 3), ("empty", 4), 3, [0, 0, 0, 3]),
    ((3, 1), ("empty", 3), ("empty", 4), 2, None),
    # No road rests longer than it is green.
    (C, ("gap", 3, 3), ("asked", 3), 3, None),
    (C, ("gap", 4, 3), ("gap", 3, 3), 3, None),
    # Only a clock changes without cars.
    (C, ("due", 1), ("longer", 4), 0, None),
    (C, ("due", 1), ("clock", 4, 1), 0, [0] * 5),
]


class InterfaceTest(Checks, unittest.TestCase):
    def test_functions_stand_in_this_module_with_their_arguments(self):
        self.check_interface(comparing, {
            "parting_comings": ["crossing", "one", "other", "kind"],
            "alike_lists": ["crossing", "kind"],
        })

    def test_new_lists(self):
        self.check_new_list(parting_comings, C, R, ("asked", 1), 3)
        for kind in KINDS:
            self.check_new_list(alike_lists, C, kind)


class PartingTest(Checks, unittest.TestCase):
    def test_example(self):
        self.check_call([0, 2], parting_comings, C, R, ("asked", 1), 3)

    def test_by_hand(self):
        for crossing, one, other, kind, expected in BY_HAND:
            self.check_call(expected, parting_comings, crossing, one, other, kind)
            self.check_call(expected, parting_comings, crossing, other, one, kind)

    def test_a_rule_is_not_parted_from_itself(self):
        for crossing in CROSSINGS:
            for rule in RULES:
                for kind in KINDS:
                    self.assertIsNone(parting_comings(crossing, rule, tuple(list(rule)), kind))

    def test_all_rules_that_no_comings_part(self):
        # Such a gap is just "asked": with an idle of most or more the age is enough already.
        for crossing in CROSSINGS:
            for one, other in itertools.combinations(sorted(RULES), 2):
                alike = asked_by(one) == asked_by(other) is not None
                found = parting_comings(crossing, one, other, 3)
                self.assertEqual(found is None, alike, (crossing, one, other))

    def test_the_last_tick_alone_has_unlike_lights(self):
        for crossing in CROSSINGS:
            for one, other in itertools.combinations(family(), 2):
                row = parting_comings(crossing, one, other, 3)
                lights = lights_along(crossing, one, row)
                others = lights_along(crossing, other, row)
                self.assertEqual(lights[:-1], others[:-1])
                self.assertNotEqual(lights[-1], others[-1])

    def test_as_a_search_with_two_states_says(self):
        for crossing in CROSSINGS:
            for one, other in itertools.combinations(RULES, 2):
                for kind in KINDS:
                    expected = parting(crossing, start_of([one, other]), comings_of(kind))
                    found = parting_comings(crossing, one, other, kind)
                    self.assertEqual(found, expected, (crossing, one, other, kind))

    def test_as_the_list_of_all_short_rows_says(self):
        for crossing in ((1, 0), (2, 1), (3, 2)):
            for one, other in itertools.combinations(RULES[::2], 2):
                for kind in KINDS:
                    expected = listed_parting(crossing, one, other, kind, 4)
                    found = parting_comings(crossing, one, other, kind)
                    if expected is None:
                        self.assertTrue(found is None or len(found) > 4, found)
                    else:
                        self.assertEqual(found, expected, (crossing, one, other, kind))

    def test_comings_have_no_bits_but_those_of_the_kind(self):
        for kind in KINDS:
            for one, other in itertools.combinations(RULES, 2):
                for coming in parting_comings((3, 0), one, other, kind) or []:
                    self.assertIs(type(coming), int)
                    self.assertIn(coming, comings_of(kind))


def asked_by(rule):
    """Return the least with which "asked" has the same lights, or None if there is none."""
    if rule[0] == "asked":
        return rule[1]
    if rule[0] == "gap" and rule[1] >= rule[2]:
        return rule[2]
    return None


CLOCKS = [[("clock", a, b)] for a in (1, 2, 3) for b in (1, 2, 3)]


class AlikeTest(Checks, unittest.TestCase):
    def test_example(self):
        self.assertEqual(len(alike_lists(C, 0)), 10)

    def test_without_cars_on_road_1_only_clocks_change(self):
        others = [rule for rule in family() if rule[0] != "clock"]
        for crossing in CROSSINGS:
            for kind in (0, 1):
                self.check_call([others] + CLOCKS, alike_lists, crossing, kind)

    def test_cars_on_road_1_alone(self):
        # Line 0 stays empty: the rest is the age, and line 1 is longer if it is not empty.
        expected = [
            [("asked", 1), ("gap", 1, 3), ("gap", 1, 4), ("longer", 1)],
            [("asked", 2), ("gap", 2, 3), ("gap", 2, 4), ("longer", 2)],
            [("asked", 3), ("longer", 3)],
        ] + CLOCKS + [
            [("due", 1)], [("due", 2)], [("due", 3)],
            [("empty", 2), ("empty", 3), ("empty", 4)],
        ]
        for crossing in CROSSINGS:
            self.check_call(expected, alike_lists, crossing, 2)

    def test_any_comings(self):
        for crossing in CROSSINGS:
            self.check_call([[rule] for rule in family()], alike_lists, crossing, 3)

    def test_two_rules_are_in_the_same_list_just_if_no_comings_part_them(self):
        for crossing in CROSSINGS:
            for kind in KINDS:
                lists = alike_lists(crossing, kind)
                self.assertEqual(lists, sorted(sorted(alike) for alike in lists))
                self.assertEqual(sorted(itertools.chain(*lists)), family())
                home = {rule: alike[0] for alike in lists for rule in alike}
                for one, other in itertools.combinations(family(), 2):
                    row = parting(crossing, start_of([one, other]), comings_of(kind))
                    self.assertEqual(row is None, home[one] == home[other], (crossing, one, other))


class ExceptionsTest(Checks, unittest.TestCase):
    def test_no_crossing(self):
        for crossing in NO_CROSSINGS:
            self.check_raises(InvalidCrossing, parting_comings, crossing, R, R, 3)
            self.check_raises(InvalidCrossing, alike_lists, crossing, 3)

    def test_no_rule(self):
        for rule in NO_RULES:
            self.check_raises(InvalidRule, parting_comings, C, rule, R, 3)
            self.check_raises(InvalidRule, parting_comings, C, R, rule, 3)
            self.check_raises(InvalidRule, parting_comings, C, rule, rule, 3)

    def test_no_kind(self):
        for kind in NO_KINDS:
            self.check_raises(InvalidKind, parting_comings, C, R, ("asked", 1), kind)
            self.check_raises(InvalidKind, parting_comings, C, R, R, kind)
            self.check_raises(InvalidKind, alike_lists, C, kind)

    def test_the_first_one_is_raised_if_several_apply(self):
        for wrong in (None, True, "", [(None,)], 5):
            self.check_raises(InvalidCrossing, parting_comings, wrong, wrong, wrong, wrong)
            self.check_raises(InvalidCrossing, parting_comings, wrong, wrong, R, 3)
            self.check_raises(InvalidCrossing, parting_comings, wrong, R, wrong, 3)
            self.check_raises(InvalidCrossing, parting_comings, wrong, R, R, wrong)
            self.check_raises(InvalidRule, parting_comings, C, wrong, wrong, wrong)
            self.check_raises(InvalidRule, parting_comings, C, wrong, R, wrong)
            self.check_raises(InvalidRule, parting_comings, C, R, wrong, wrong)
            self.check_raises(InvalidCrossing, alike_lists, wrong, wrong)

    def test_booleans_are_no_integers(self):
        self.check_raises(InvalidKind, parting_comings, C, R, R, True)
        self.check_raises(InvalidKind, parting_comings, C, R, R, False)
        self.check_raises(InvalidKind, alike_lists, C, True)
        self.check_raises(InvalidKind, alike_lists, C, False)
        for number in NUMBERS:
            self.check_raises(InvalidRule, parting_comings, C, ("clock", True, number), R, 3)
            self.check_raises(InvalidRule, parting_comings, C, R, ("gap", number, True), 3)


if __name__ == "__main__":
    unittest.main()
