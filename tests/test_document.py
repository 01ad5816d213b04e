"""What the document promises over the whole program, beside the promises of each module."""

import itertools
import unittest

from lightrules import comparing, crossings, desk, errors, hidden, losses, naive, reading, texts, ticks
from lightrules.comparing import alike_lists, parting_comings
from lightrules.crossings import are_comings, family, is_crossing, is_rule
from lightrules.desk import Desk
from lightrules.errors import (
    InvalidComing, InvalidComings, InvalidCount, InvalidCrossing, InvalidKind, InvalidLights, InvalidRoad,
    InvalidRule, InvalidRules, LightError, ParseError,
)
from lightrules.hidden import best_coming, fewest_ticks
from lightrules.losses import first_loss, full_flow, greatest_loss, starving_row, worst_row
from lightrules.naive import naive_loss, naive_parting
from lightrules.reading import could_be, could_show, count_comings, first_comings
from lightrules.texts import (
    format_comings, format_lights, format_rule, parse_comings, parse_lights, parse_rule,
)
from lightrules.ticks import counts_along, lights_along, lines_along
from tests.checks import Checks, lists_in
from tests.oracles import plays_of_loop
from tests.samples import CROSSINGS, KINDS, NUMBERS, RULES

C = (2, 1)
R = ("asked", 2)
PAIR = (("asked", 1), ("asked", 2))

# Each function with arguments, and with the exception of each argument: they are listed with the
# calls in the order of the arguments.
CALLS = [
    (is_crossing, (C,), ()),
    (is_rule, (R,), ()),
    (are_comings, ([0, 1, 2, 3],), ()),
    (family, (), ()),
    (lights_along, (C, R, [3, 0, 0]), (InvalidCrossing, InvalidRule, InvalidComings)),
    (lines_along, (C, R, [3, 0, 0]), (InvalidCrossing, InvalidRule, InvalidComings)),
    (counts_along, (C, R, [3, 0, 0]), (InvalidCrossing, InvalidRule, InvalidComings)),
    (parting_comings, (C, R, PAIR[0], 3), (InvalidCrossing, InvalidRule, InvalidRule, InvalidKind)),
    (alike_lists, (C, 2), (InvalidCrossing, InvalidKind)),
    (could_be, (C, [2, 0], [0, None]), (InvalidCrossing, InvalidComings, InvalidLights)),
    (could_show, (C, [0, None]), (InvalidCrossing, InvalidLights)),
    (count_comings, (C, R, [0, 0, None]), (InvalidCrossing, InvalidRule, InvalidLights)),
    (first_comings, (C, R, [0, 0, None]), (InvalidCrossing, InvalidRule, InvalidLights)),
    (fewest_ticks, (C, PAIR), (InvalidCrossing, InvalidRules)),
    (best_coming, (C, PAIR, [0], [0]), (InvalidCrossing, InvalidRules, InvalidComings, InvalidLights)),
    (greatest_loss, (C, R, 3), (InvalidCrossing, InvalidRule, InvalidKind)),
    (worst_row, (C, R, 3), (InvalidCrossing, InvalidRule, InvalidKind)),
    (first_loss, (C, R, 3), (InvalidCrossing, InvalidRule, InvalidKind)),
    (starving_row, (C, ("longer", 2), 1), (InvalidCrossing, InvalidRule, InvalidRoad)),
    (full_flow, (C, R), (InvalidCrossing, InvalidRule)),
    (format_comings, ([0, 3],), (InvalidComings,)),
    (parse_comings, ("03",), (ParseError,)),
    (format_lights, ([0, None],), (InvalidLights,)),
    (parse_lights, ("0-",), (ParseError,)),
    (format_rule, (R,), (InvalidRule,)),
    (parse_rule, ("asked 2",), (ParseError,)),
    (naive_parting, (C, R, PAIR[0], 3, 2),
     (InvalidCrossing, InvalidRule, InvalidRule, InvalidKind, InvalidCount)),
    (naive_loss, (C, R, 2), (InvalidCrossing, InvalidRule, InvalidCount)),
]

DESK_CALLS = [
    (Desk, (C, R), (InvalidCrossing, InvalidRule)),
    (Desk(C, R).tick, (3,), (InvalidComing,)),
]

# These are wrong wherever an exception is listed for an argument.
WRONG = (None, True, False, -1, 10 ** 5000, [(None,)], ((),), [True], (True,), [[0]], "%", ["0"], [0, False])

MODULES = (comparing, crossings, desk, errors, hidden, losses, naive, reading, texts, ticks)


class ExamplesTest(Checks, unittest.TestCase):
    def test_examples(self):
        self.check_call(False, is_rule, ("clock", 0, 1))
        self.check_call([0, 0, None, 1, 1], lights_along, C, R, [3, 0, 0, 0, 0])
        self.check_call([0, 2], parting_comings, C, R, ("asked", 1), 3)
        self.assertEqual(len(alike_lists(C, 0)), 10)
        self.assertEqual(len(could_be(C, [2], [0])), 22)
        self.check_call(56, count_comings, C, R, [0, 0, None])
        self.check_call(2, fewest_ticks, C, (("asked", 1), ("asked", 2)))
        self.check_call(0, best_coming, C, (("asked", 1), ("asked", 2)), [], [])
        self.check_call((0, 1), greatest_loss, C, R, 1)
        self.check_call([2, 2, 2], first_loss, C, R, 2)
        self.check_call(None, starving_row, C, R, 1)
        self.check_call((3, 5), full_flow, C, ("clock", 2, 1))
        told = Desk(C, R)
        told.tick(3)
        self.check_call((0, 1), told.lines)
        self.check_call("0-1", format_lights, [0, None, 1])
        self.check_call(("clock", 2, 1), parse_rule, "clock 2 1")
        self.check_call(1, naive_loss, C, R, 3)


class CallsTest(Checks, unittest.TestCase):
    def test_all_functions_are_among_the_calls(self):
        defined = [
            value for module in MODULES for name, value in vars(module).items()
            if callable(value) and value.__module__ == module.__name__ and not name.startswith("_")
        ]
        called = [function for function, _, _ in CALLS]
        helpers = [function for function in defined if function not in called and not isinstance(function, type)]
        # Beside the interface there are only what modules import from each other.
        self.assertEqual({function.__module__ for function in helpers}, {crossings.__name__, ticks.__name__})

    def test_each_error_is_one_for_this_package(self):
        for _, _, expected in CALLS + DESK_CALLS:
            for error in expected:
                self.assertEqual(error.__bases__, (LightError,))
        self.assertEqual(LightError.__bases__, (ValueError,))

    def test_equal_results_and_unchanged_arguments(self):
        for function, arguments, _ in CALLS:
            self.check_call(function(*arguments), function, *arguments)

    def test_lists_are_new_ones(self):
        many = 0
        for function, arguments, _ in CALLS:
            self.check_new_lists(function, *arguments)
            many += len(lists_in(function(*arguments))) > 0
        # So many functions return lists, alone or in tuples.
        self.assertEqual(many, 15)

    def test_the_exception_that_is_listed_first(self):
        for function, right, expected in CALLS + DESK_CALLS:
            for places in subsets(range(len(expected))):
                for wrong in WRONG:
                    arguments = [wrong if at in places else right[at] for at in range(len(right))]
                    self.check_raises(expected[places[0]], function, *arguments)


def subsets(places):
    """Return all subsets of places but the empty one, each one ascending."""
    sizes = range(1, len(places) + 1)
    return [subset for size in sizes for subset in itertools.combinations(places, size)]


class PromisesTest(Checks, unittest.TestCase):
    def test_in_a_loop_all_cars_that_come_pass_or_are_lost(self):
        for crossing in CROSSINGS:
            for rule in family():
                for kind in KINDS:
                    row, loop = worst_row(crossing, rule, kind)
                    came = sum((coming & 1) + (coming >> 1) for coming in loop)
                    one, other = plays_of_loop(crossing, rule, (row, loop), 2)
                    self.assertEqual(came, one[2] + one[3])
                    self.assertEqual(one, other)

    def test_any_comings_go_with_the_lights_of_clocks(self):
        for crossing in CROSSINGS:
            for a, b in itertools.product(NUMBERS, repeat=2):
                lights = lights_along(crossing, ("clock", a, b), [0] * 40)
                self.check_call(4 ** 40, count_comings, crossing, ("clock", a, b), lights)
                self.check_call([0] * 40, first_comings, crossing, ("clock", a, b), lights)

    def test_only_longer_lets_roads_wait_for_ever(self):
        for crossing in CROSSINGS:
            waiting = [rule for rule in RULES for road in (0, 1) if starving_row(crossing, rule, road)]
            self.assertEqual(waiting, [("longer", least) for least in NUMBERS for _ in (0, 1)])

    def test_desks_with_hidden_rules_are_found_by_the_plan(self):
        triples = list(itertools.combinations(sorted(RULES), 3))
        for at, crossing in enumerate(CROSSINGS):
            for rules in triples[at * 17::1501]:
                played = [len(self.found_desk(crossing, rules, rule)) for rule in rules]
                self.assertEqual(max(played), fewest_ticks(crossing, rules))

    def found_desk(self, crossing, rules, rule):
        """Play best comings on a desk with a hidden rule, until it is found."""
        told = Desk(crossing, rule)
        coming = best_coming(crossing, rules, [], [])
        while coming is not None:
            told.tick(coming)
            coming = best_coming(crossing, rules, told.comings(), told.lights())
        row = told.comings()
        possible = [one for one in rules if lights_along(crossing, one, row) == told.lights()]
        self.assertIn(rule, possible)
        for further in itertools.product(range(4), repeat=3):
            shown = [lights_along(crossing, one, row + list(further)) for one in possible]
            self.assertEqual(shown, [shown[0]] * len(shown))
        return told

    def test_what_was_written_is_read_again(self):
        for crossing in CROSSINGS:
            for rule in family():
                row, loop = worst_row(crossing, rule, 3)
                text = format_comings(row + loop)
                self.assertEqual(parse_comings(text), row + loop)
                lights = lights_along(crossing, rule, row + loop)
                self.assertEqual(parse_lights(format_lights(lights)), lights)
                self.assertIn(parse_rule(format_rule(rule)), could_be(crossing, parse_comings(text), lights))


if __name__ == "__main__":
    unittest.main()
