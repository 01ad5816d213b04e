import itertools
import unittest

from lightrules import reading
from lightrules.crossings import family
from lightrules.errors import InvalidComings, InvalidCrossing, InvalidLights, InvalidRule
from lightrules.reading import could_be, could_show, count_comings, first_comings
from lightrules.ticks import lights_along
from tests.checks import Checks
from tests.oracles import listed_lights, listed_rows
from tests.samples import CROSSINGS, LIGHTS, NO_COMINGS, NO_CROSSINGS, NO_LIGHTS, NO_RULES, RULES
from tests.test_ticks import long_rows, sparse_rows

C = (2, 1)
R = ("asked", 2)
CLOCKS = [rule for rule in family() if rule[0] == "clock"]
EMPTIES = [("empty", 2), ("empty", 3), ("empty", 4)]
OTHERS = [rule for rule in family() if rule not in EMPTIES]


def lists_of_lights(length):
    return [list(lights) for lights in itertools.product(LIGHTS, repeat=length)]


class InterfaceTest(Checks, unittest.TestCase):
    def test_functions_stand_in_this_module_with_their_arguments(self):
        self.check_interface(reading, {
            "could_be": ["crossing", "comings", "lights"],
            "could_show": ["crossing", "lights"],
            "count_comings": ["crossing", "rule", "lights"],
            "first_comings": ["crossing", "rule", "lights"],
        })

    def test_new_lists(self):
        for lights in ([], [0], [1], [0, 0, None], [0] * 40):
            self.check_new_list(could_be, C, [2] * len(lights), lights)
            self.check_new_list(could_show, C, lights)
        for lights in ([], [0], [0, 0, None], [0] * 40):
            self.check_new_list(first_comings, C, R, lights)


class CouldBeTest(Checks, unittest.TestCase):
    def test_example(self):
        self.assertEqual(len(could_be(C, [2], [0])), 22)

    def test_by_hand(self):
        self.check_call(family(), could_be, C, [], [])
        # Only "empty" changes in the first tick: line 0 is empty, line 1 is not.
        self.check_call(OTHERS, could_be, C, [2], [0])
        self.check_call(EMPTIES, could_be, C, [2], [None])
        self.check_call(EMPTIES, could_be, (2, 0), [2], [1])
        self.check_call([], could_be, C, [2], [1])
        self.check_call([], could_be, C, [0], [None])
        self.check_call([("clock", 2, 1)], could_be, C, [0] * 6, [0, 0, None, 1, None, 0])
        # Behind a tick in which a car passes, line 1 is not empty in the next two.
        self.check_call([
            ("asked", 2), ("clock", 2, 1), ("clock", 2, 2), ("clock", 2, 3), ("due", 1),
            ("gap", 1, 3), ("gap", 1, 4), ("longer", 2),
        ], could_be, C, [1, 2, 2], [0, 0, None])
        # A car passes in each tick, and line 1 is no longer than line 0: no rest, the age 3, the wait 2.
        self.check_call([
            ("asked", 3), ("clock", 3, 1), ("clock", 3, 2), ("clock", 3, 3), ("due", 2),
            ("empty", 3), ("gap", 1, 3), ("gap", 2, 3),
        ], could_be, C, [1, 3, 1, 1], [0, 0, 0, None])

    def test_lists_of_unlike_lengths(self):
        for comings, lights in (([], [0]), ([0], []), ([0, 0], [0]), ([0], [0, 0]), ([0] * 40, [])):
            self.check_call([], could_be, C, comings, lights)

    def test_forty_ticks(self):
        others = [rule for rule in family() if rule[0] != "clock"]
        for crossing in CROSSINGS:
            self.check_call(others, could_be, crossing, [0] * 40, [0] * 40)
            for rule in CLOCKS:
                lights = lights_along(crossing, rule, [1] * 40)
                self.check_call([rule], could_be, crossing, [0] * 40, lights)

    def test_rules_that_show_just_these_lights_as_the_history_says(self):
        for crossing in CROSSINGS:
            for row in itertools.product(range(4), repeat=3):
                shown = {rule: list(listed_lights(crossing, rule, row)) for rule in family()}
                for lights in lists_of_lights(3):
                    expected = [rule for rule in family() if shown[rule] == lights]
                    self.assertEqual(could_be(crossing, list(row), lights), expected)

    def test_long_rows(self):
        for row in long_rows(1, 40) + sparse_rows(1, 40):
            for crossing in CROSSINGS:
                shown = {rule: lights_along(crossing, rule, row) for rule in RULES}
                for lights in shown.values():
                    expected = [rule for rule in family() if shown[rule] == lights]
                    self.assertEqual(could_be(crossing, row, lights), expected)


class CouldShowTest(Checks, unittest.TestCase):
    def test_by_hand(self):
        self.check_call(family(), could_show, C, [])
        self.check_call(family(), could_show, C, [0])
        self.check_call(EMPTIES, could_show, C, [None])
        self.check_call(EMPTIES, could_show, (2, 0), [1])
        self.check_call([], could_show, C, [1])
        self.check_call([], could_show, (2, 0), [None])
        self.check_call([], could_show, C, [0, 1])
        self.check_call([], could_show, C, [None, 0])
        # What changes at the age 1, at the rest 1 or at the wait 1.
        self.check_call([
            ("asked", 1), ("clock", 1, 1), ("clock", 1, 2), ("clock", 1, 3), ("due", 1),
            ("empty", 2), ("empty", 3), ("empty", 4), ("gap", 1, 3), ("gap", 1, 4), ("longer", 1),
        ], could_show, C, [0, None])

    def test_forty_lights(self):
        others = [rule for rule in family() if rule[0] != "clock"]
        for crossing in CROSSINGS:
            self.check_call(others, could_show, crossing, [0] * 40)
            self.check_call([], could_show, crossing, [None] * 40)
            self.check_call([], could_show, crossing, [0, 1, 1, 1, None] * 8)

    def test_lights_of_long_rows_are_shown(self):
        for row in long_rows(1, 40) + sparse_rows(1, 40):
            for crossing in CROSSINGS:
                for rule in family()[::4]:
                    lights = lights_along(crossing, rule, row)
                    self.assertIn(rule, could_show(crossing, lights))


class RowsTest(Checks, unittest.TestCase):
    def check_lights(self, many, first, crossing, rule, lights):
        self.check_call(many, count_comings, crossing, rule, lights)
        self.check_call(first, first_comings, crossing, rule, lights)

    def test_example(self):
        self.check_call(56, count_comings, C, R, [0, 0, None])

    def test_by_hand(self):
        self.check_lights(56, [0, 0, 2], C, R, [0, 0, None])
        self.check_lights(8, [0, 0, 0], C, R, [0, 0, 0])
        self.check_lights(16, [0, 0], C, R, [0, 0])
        self.check_lights(0, None, C, R, [0, None])
        self.check_lights(12, [0, 2], (1, 0), ("asked", 1), [0, 1])
        # The first tick must be without a car on road 0, with one on road 1.
        self.check_lights(1, [2], C, ("empty", 2), [None])
        self.check_lights(3, [0], C, ("empty", 2), [0])
        # A car on road 1 in the first tick, whatever comes in the second.
        self.check_lights(8, [2, 0], C, ("due", 1), [0, None])
        # Line 1 is longer by a car that waits, or by one that comes while none comes on road 0.
        self.check_lights(4 + 2, [0, 2], (1, 1), ("longer", 1), [0, None])

    def test_no_lights(self):
        for crossing in CROSSINGS:
            for rule in RULES:
                self.check_lights(1, [], crossing, rule, [])

    def test_lights_that_the_rule_does_not_show(self):
        for crossing in CROSSINGS:
            for rule in RULES:
                for lights in ([0, None, 0], [None] * 3, [0] * 20 + [None, 0] * 10, [1, 0, 1, 0, 0, 1, None]):
                    self.check_lights(0, None, crossing, rule, lights)

    def test_all_rows_of_comings_go_with_the_lights_of_clocks(self):
        for crossing in CROSSINGS:
            for rule in CLOCKS + [("clock", 4, 4)]:
                lights = lights_along(crossing, rule, [3] * 40)
                self.check_lights(4 ** 40, [0] * 40, crossing, rule, lights)
                self.check_lights(4 ** 39, [0] * 39, crossing, rule, lights[:39])
                lights[39] = None if lights[39] == 1 else 1
                self.check_lights(0, None, crossing, rule, lights)

    def test_forty_lights(self):
        # Road 0 stays green just if no car comes on road 1.
        self.check_lights(2 ** 40, [0] * 40, C, ("asked", 4), [0] * 40)
        self.check_lights(2 ** 40, [0] * 39 + [2], C, ("asked", 4), [0] * 39 + [None])
        self.check_lights(2 ** 40, [0] * 39 + [2], (3, 0), ("gap", 4, 4), [0] * 39 + [1])
        # "due" looks at the tick ahead: the last coming does not count.
        self.check_lights(4 * 2 ** 39, [0] * 40, (1, 2), ("due", 1), [0] * 40)
        self.check_lights(4 * 2 ** 39, [0] * 38 + [2, 0], (1, 2), ("due", 1), [0] * 39 + [None])

    def test_as_the_list_of_all_rows_says(self):
        for crossing in CROSSINGS:
            for length in range(4):
                found = {rule: listed_rows(crossing, rule, length) for rule in RULES}
                for lights in lists_of_lights(length):
                    rows = {rule: found[rule].get(tuple(lights), []) for rule in RULES}
                    for rule in RULES:
                        self.assertEqual(count_comings(crossing, rule, lights), len(rows[rule]))
                        first = rows[rule][0] if rows[rule] else None
                        self.assertEqual(first_comings(crossing, rule, lights), first)
                    expected = [rule for rule in family() if rows[rule]]
                    self.assertEqual(could_show(crossing, lights), expected)

    def test_as_the_list_of_all_longer_rows_says(self):
        for crossing in ((1, 0), (2, 1), (3, 2)):
            for rule in RULES[::2]:
                for lights, rows in listed_rows(crossing, rule, 5).items():
                    self.assertEqual(count_comings(crossing, rule, list(lights)), len(rows))
                    self.assertEqual(first_comings(crossing, rule, list(lights)), rows[0])

    def test_lights_of_long_rows(self):
        for row in long_rows(1, 40) + sparse_rows(1, 40):
            for crossing in CROSSINGS:
                for rule in RULES:
                    lights = lights_along(crossing, rule, row)
                    first = first_comings(crossing, rule, lights)
                    self.assertEqual(lights_along(crossing, rule, first), lights)
                    self.assertLessEqual(first, row)
                    many = count_comings(crossing, rule, lights)
                    self.assertTrue(1 <= many <= 4 ** 40)
                    self.assertTrue(many > 1 or first == row)

    def test_each_next_light_parts_the_rows(self):
        for row in sparse_rows(1, 39):
            for crossing in CROSSINGS:
                for rule in RULES:
                    lights = lights_along(crossing, rule, row)
                    many = [count_comings(crossing, rule, lights + [light]) for light in LIGHTS]
                    self.assertEqual(sum(many), 4 * count_comings(crossing, rule, lights))


class ExceptionsTest(Checks, unittest.TestCase):
    def test_no_crossing(self):
        for crossing in NO_CROSSINGS:
            self.check_raises(InvalidCrossing, could_be, crossing, [2], [0])
            self.check_raises(InvalidCrossing, could_show, crossing, [0])
            self.check_raises(InvalidCrossing, count_comings, crossing, R, [0])
            self.check_raises(InvalidCrossing, first_comings, crossing, R, [0])

    def test_no_rule(self):
        for rule in NO_RULES:
            self.check_raises(InvalidRule, count_comings, C, rule, [0])
            self.check_raises(InvalidRule, first_comings, C, rule, [0])

    def test_no_comings(self):
        for comings in NO_COMINGS:
            self.check_raises(InvalidComings, could_be, C, comings, [0])

    def test_no_lights(self):
        for lights in NO_LIGHTS:
            self.check_raises(InvalidLights, could_be, C, [2], lights)
            self.check_raises(InvalidLights, could_show, C, lights)
            self.check_raises(InvalidLights, count_comings, C, R, lights)
            self.check_raises(InvalidLights, first_comings, C, R, lights)

    def test_wrong_lights_are_found_wherever_they_stand(self):
        for at in range(40):
            for wrong in (2, -1, True, False, "0", [0], (None,)):
                # The lights ahead of the wrong one are such as no rule shows.
                lights = [1] * 40
                lights[at] = wrong
                self.check_raises(InvalidLights, could_be, C, [0] * 40, lights)
                self.check_raises(InvalidLights, could_show, C, lights)
                self.check_raises(InvalidLights, count_comings, C, R, lights)
                self.check_raises(InvalidLights, first_comings, C, R, lights)

    def test_forty_and_forty_one(self):
        for light in LIGHTS:
            self.check_raises(InvalidLights, could_be, C, [0] * 40, [light] * 41)
            self.check_raises(InvalidComings, could_be, C, [0] * 41, [light] * 41)
            self.check_raises(InvalidLights, could_show, C, [light] * 41)
            self.check_raises(InvalidLights, count_comings, C, R, [light] * 41)
            self.check_raises(InvalidLights, first_comings, C, R, [light] * 41)

    def test_the_first_one_is_raised_if_several_apply(self):
        for wrong in (None, True, "", [(None,)], 5, (0,)):
            self.check_raises(InvalidCrossing, could_be, wrong, wrong, wrong)
            self.check_raises(InvalidCrossing, could_be, wrong, wrong, [0])
            self.check_raises(InvalidCrossing, could_be, wrong, [2], wrong)
            self.check_raises(InvalidComings, could_be, C, wrong, wrong)
            self.check_raises(InvalidCrossing, could_show, wrong, wrong)
            for function in (count_comings, first_comings):
                self.check_raises(InvalidCrossing, function, wrong, wrong, wrong)
                self.check_raises(InvalidCrossing, function, wrong, wrong, [0])
                self.check_raises(InvalidCrossing, function, wrong, R, wrong)
                self.check_raises(InvalidRule, function, C, wrong, wrong)


if __name__ == "__main__":
    unittest.main()
