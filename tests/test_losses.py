import itertools
import math
import unittest
from fractions import Fraction

from lightrules import losses
from lightrules.crossings import are_comings, family
from lightrules.errors import InvalidCrossing, InvalidKind, InvalidRoad, InvalidRule
from lightrules.losses import first_loss, full_flow, greatest_loss, starving_row, worst_row
from lightrules.ticks import counts_along
from tests.checks import Checks
from tests.history import play
from tests.oracles import comings_of, is_endless, loses_no_more, losing, plays_of_loop, rows_of
from tests.samples import (
    CROSSINGS, KINDS, NO_CROSSINGS, NO_KINDS, NO_ROADS, NO_RULES, NUMBERS, ROADS, RULES,
)

C = (2, 1)
R = ("asked", 2)
OF_KINDS = (greatest_loss, worst_row, first_loss)

# So many plays show whether a loop is one of an endless row: no number of a rule is greater than 4.
TIMES = 12

# (crossing, rule, kind, row or None), played by hand.
FIRST_LOSSES = [
    (C, R, 2, [2, 2, 2]),
    (C, R, 1, None),
    (C, R, 0, None),
    # A car comes ahead of the change, so it finds the line still full.
    (C, R, 3, [2, 2, 2]),
    ((1, 0), ("due", 1), 2, [2, 2]),
    ((1, 0), ("asked", 1), 3, [2, 2]),
    # In room for two the line is down to one car at the end of tick 2, and stays so.
    ((2, 0), ("asked", 1), 2, None),
    # Any tick in which road 1 has a car and road 0 has none changes at once.
    ((1, 0), ("empty", 2), 2, None),
    ((1, 0), ("empty", 2), 3, [3, 2]),
    # Lights 0-1-0: only the car of tick 2 waits, and the one of tick 3 finds it.
    ((1, 0), ("clock", 1, 1), 1, [0, 1, 1]),
    ((1, 0), ("clock", 1, 1), 2, [2, 2]),
    # Every second car passes: 1, 1, 2, 2, 3 cars are left, and the sixth one is lost.
    ((3, 0), ("clock", 1, 1), 2, [2] * 6),
    ((3, 0), ("clock", 1, 1), 1, [0, 1, 1, 1, 1, 1, 1]),
    # Lights 0000--: four ticks are enough to fill the line of road 1 and to lose a car.
    ((3, 2), ("clock", 4, 4), 2, [2] * 4),
    ((3, 2), ("clock", 4, 4), 1, [0, 0, 0, 0, 1, 1, 1, 1]),
    ((3, 2), ("longer", 4), 3, [2] * 4),
    # The pause begins in tick 1 already, and ends in tick 3 with a car that passes.
    ((2, 2), ("empty", 1), 2, [2, 2, 2]),
    ((3, 2), ("empty", 1), 2, None),
]

# (crossing, rule, kind, greatest loss). A full road loses a car in each tick in which it is not
# green. In a green tick a car passes, or none comes, so two cars are lost in ticks of a pause only.
LOSSES = [
    (C, R, 0, (0, 1)),
    (C, R, 1, (0, 1)),
    (C, R, 2, (0, 1)),
    # Lights 00-11- in full lines: 1 + 1 + 2 cars in three ticks.
    (C, R, 3, (4, 3)),
    ((1, 0), ("clock", 1, 1), 1, (1, 2)),
    ((3, 0), ("clock", 1, 3), 1, (3, 4)),
    ((3, 0), ("clock", 1, 3), 2, (1, 4)),
    # Full lines never change, and lose one car in each tick. But if road r stays without a car in
    # the tick behind the one that passed, it changes: 1 green tick, 2 of a pause, 6 - 2 cars lost.
    ((1, 2), ("longer", 1), 3, (4, 3)),
    # Such a tick must be green here: 2 green ticks, 2 of a pause, 8 - 2 lost; full lines lose 8 in 6.
    ((1, 2), ("gap", 1, 4), 3, (3, 2)),
    # Full lines lose 2 * (most + 2) - most in most + 2 ticks; empty ones as "longer" above.
    ((1, 2), ("empty", 1), 3, (5, 3)),
    ((1, 2), ("empty", 2), 3, (3, 2)),
    ((1, 2), ("empty", 3), 3, (7, 5)),
    ((1, 2), ("empty", 4), 3, (4, 3)),
]

# (crossing, rule, road, row, loop): endless rows in which a road waits for ever, played by hand.
STARVING = [
    # Line 0 is as long as line 1 whenever the rule is asked.
    ((1, 0), ("longer", 1), 1, [2], [1]),
    ((3, 2), ("longer", 4), 1, [0, 0, 0, 2], [1]),
    # First road 1 is made green, then a car comes on road 0, and always one on road 1.
    ((2, 1), ("longer", 1), 0, [0, 2, 1], [2]),
    ((3, 0), ("longer", 2), 0, [0, 0, 2, 1], [2]),
]


def full_flow_of(crossing, rule):
    """Return what full roads come to: green for so many ticks, then a pause, and so on."""
    pause = crossing[1]
    word, *numbers = rule
    if word == "longer":
        # Both lines are full whenever the rule is asked.
        return 1, 1
    if word == "clock":
        green, pauses = sum(numbers), 2 * pause
    elif word == "due":
        # The ticks of the pause count, and behind it at least one tick is green.
        green, pauses = max(1, numbers[0] - pause), pause
    else:
        # A car passes in each green tick, and the own line is not empty when the rule is asked.
        green, pauses = numbers[-1], pause
    return reduced(green, green + pauses)


def reduced(above, below):
    return above // math.gcd(above, below), below // math.gcd(above, below)


class InterfaceTest(Checks, unittest.TestCase):
    def test_functions_stand_in_this_module_with_their_arguments(self):
        self.check_interface(losses, {
            "greatest_loss": ["crossing", "rule", "kind"],
            "worst_row": ["crossing", "rule", "kind"],
            "first_loss": ["crossing", "rule", "kind"],
            "starving_row": ["crossing", "rule", "road"],
            "full_flow": ["crossing", "rule"],
        })

    def test_new_lists(self):
        self.check_new_list(first_loss, C, R, 2)
        for crossing, rule, road, _, _ in STARVING:
            self.check_new_lists(starving_row, crossing, rule, road)
        for kind in KINDS:
            for rule in (R, ("clock", 1, 2), ("longer", 1)):
                self.check_new_lists(worst_row, C, rule, kind)
                self.check_new_lists(worst_row, (1, 0), rule, kind)

    def test_examples(self):
        self.check_call((0, 1), greatest_loss, C, R, 1)
        self.check_call([2, 2, 2], first_loss, C, R, 2)
        self.check_call(None, starving_row, C, R, 1)
        self.check_call((3, 5), full_flow, C, ("clock", 2, 1))


class EndlessRows(Checks):
    def check_shape(self, endless, kind):
        self.assertIs(type(endless), tuple)
        self.assertEqual([type(part) for part in endless], [list, list])
        self.assertTrue(are_comings(endless[0]) and are_comings(endless[1]), endless)
        self.assertNotEqual(endless[1], [])
        self.assertEqual(set(endless[0] + endless[1]) - set(comings_of(kind)), set())


class GreatestLossTest(EndlessRows, unittest.TestCase):
    def check_fraction(self, fraction):
        self.assertEqual([type(part) for part in fraction], [int, int])
        self.assertGreater(fraction[1], 0)
        self.assertEqual(math.gcd(*fraction), 1)

    def test_by_hand(self):
        for crossing, rule, kind, expected in LOSSES:
            self.check_call(expected, greatest_loss, crossing, rule, kind)

    def test_clocks(self):
        for crossing in CROSSINGS:
            for a, b in itertools.product(NUMBERS, repeat=2):
                dark = 2 * crossing[1]
                ticks = a + b + dark
                for kind, lost in enumerate((0, b + dark, a + dark, ticks + dark)):
                    self.check_call(reduced(lost, ticks), greatest_loss, crossing, ("clock", a, b), kind)

    def test_the_road_with_the_only_cars_becomes_and_stays_green(self):
        for crossing in CROSSINGS:
            for rule in RULES:
                if rule[0] != "clock":
                    for kind in (0, 1, 2):
                        self.check_call((0, 1), greatest_loss, crossing, rule, kind)

    def test_without_a_pause_one_car_is_lost_in_each_tick_of_full_lines(self):
        for room in (1, 2, 3):
            for rule in RULES:
                self.check_call((1, 1), greatest_loss, (room, 0), rule, 3)

    def test_full_lines_are_the_worst_if_the_rule_changes_as_soon_as_it_may(self):
        for crossing in CROSSINGS:
            for rule in RULES:
                if rule[0] in ("asked", "clock", "due"):
                    passed, ticks = full_flow_of(crossing, rule)
                    expected = reduced(2 * ticks - passed, ticks)
                    self.check_call(expected, greatest_loss, crossing, rule, 3)

    def test_a_worst_row_has_the_told_loss_and_no_loop_has_more(self):
        for crossing in CROSSINGS:
            for rule in RULES:
                for kind in KINDS:
                    where = (crossing, rule, kind)
                    fraction = greatest_loss(*where)
                    self.check_fraction(fraction)
                    endless = worst_row(*where)
                    self.check_shape(endless, kind)
                    self.assertTrue(is_endless(crossing, rule, endless, TIMES), where)
                    lost = plays_of_loop(crossing, rule, endless, 1)[0][3]
                    self.assertEqual(Fraction(lost, len(endless[1])), Fraction(*fraction), where)
                    self.assertTrue(loses_no_more(crossing, rule, comings_of(kind), fraction), where)

    def test_the_search_of_this_test_finds_loops_that_lose_more(self):
        for crossing, rule, kind, (above, below) in LOSSES:
            less = (above - 1, below)
            self.assertFalse(loses_no_more(crossing, rule, comings_of(kind), less), (crossing, rule))

    def test_no_short_endless_row_loses_more(self):
        loops = list(rows_of(3, 3))
        for crossing in ((1, 0), (2, 1)):
            for rule in family():
                greatest = Fraction(*greatest_loss(crossing, rule, 3))
                for row, loop in itertools.product([()] + list(rows_of(3, 1)), loops):
                    plays = plays_of_loop(crossing, rule, (row, loop), TIMES)
                    if is_endless(crossing, rule, (row, loop), TIMES):
                        self.assertLessEqual(Fraction(plays[0][3], len(loop)), greatest)

    def test_more_kinds_of_comings_lose_no_less(self):
        for crossing in CROSSINGS:
            for rule in RULES:
                none, on_0, on_1, on_both = [Fraction(*greatest_loss(crossing, rule, kind)) for kind in KINDS]
                self.assertEqual(none, 0)
                self.assertLessEqual(max(on_0, on_1), on_both)

    def test_a_loop_without_a_row_ahead_of_it(self):
        # "due" asks for no age, and no car waits, so the beginning comes again in each tick.
        for crossing in CROSSINGS:
            self.check_call(([], [0]), worst_row, crossing, ("due", 1), 0)
            self.assertTrue(is_endless(crossing, ("due", 1), ([], [0]), TIMES))


class FirstLossTest(Checks, unittest.TestCase):
    def test_by_hand(self):
        for crossing, rule, kind, expected in FIRST_LOSSES:
            self.check_call(expected, first_loss, crossing, rule, kind)

    def test_without_cars_none_is_lost(self):
        for crossing in CROSSINGS:
            for rule in RULES:
                self.check_call(None, first_loss, crossing, rule, 0)

    def test_cars_on_road_0_alone_are_lost_by_clocks_only(self):
        for crossing in CROSSINGS:
            for rule in RULES:
                self.assertEqual(first_loss(crossing, rule, 1) is None, rule[0] != "clock")

    def test_the_last_tick_alone_has_a_loss(self):
        for crossing in CROSSINGS:
            for rule in RULES:
                for kind in KINDS:
                    row = first_loss(crossing, rule, kind)
                    if row is not None:
                        self.assertEqual(set(row) - set(comings_of(kind)), set())
                        lost = [pair[1] for pair in counts_along(crossing, rule, row)]
                        self.assertEqual([many > 0 for many in lost], [False] * (len(row) - 1) + [True])

    def test_as_a_search_says(self):
        for crossing in CROSSINGS:
            for rule in RULES:
                for kind in KINDS:
                    expected = losing(crossing, rule, comings_of(kind))
                    self.assertEqual(first_loss(crossing, rule, kind), expected, (crossing, rule, kind))

    def test_as_the_list_of_all_short_rows_says(self):
        for crossing in CROSSINGS:
            for rule in RULES[::3]:
                for kind in KINDS:
                    found = first_loss(crossing, rule, kind)
                    if found is None or len(found) > 4:
                        found = None
                    self.assertEqual(found, listed_loss(crossing, rule, kind, 4), (crossing, rule, kind))


def listed_loss(crossing, rule, kind, most):
    """Return the first row of at most so many comings with a loss in its last tick, or None."""
    for row in rows_of(kind, most):
        if play(crossing, rule, row)[2][-1][1] > 0:
            return list(row)
    return None


class StarvingTest(EndlessRows, unittest.TestCase):
    def check_starving(self, crossing, rule, road, endless):
        self.check_shape(endless, 3)
        self.assertTrue(is_endless(crossing, rule, endless, TIMES), endless)
        for lights, lines, _, _ in plays_of_loop(crossing, rule, endless, TIMES):
            self.assertNotIn(road, lights)
            self.assertGreater(min(line[road] for line in lines), 0)

    def test_by_hand(self):
        for crossing, rule, road, row, loop in STARVING:
            self.check_starving(crossing, rule, road, (row, loop))
            self.check_starving(crossing, rule, road, starving_row(crossing, rule, road))

    def test_longer_lets_each_road_wait_for_ever(self):
        for crossing in CROSSINGS:
            for least in NUMBERS:
                for road in ROADS:
                    rule = ("longer", least)
                    self.check_starving(crossing, rule, road, starving_row(crossing, rule, road))

    def test_no_other_rule_lets_a_road_wait_for_ever(self):
        for crossing in CROSSINGS:
            for rule in RULES:
                if rule[0] != "longer":
                    for road in ROADS:
                        self.check_call(None, starving_row, crossing, rule, road)

    def test_arguments_and_answers_stay_as_they_are(self):
        for crossing, rule, road, _, _ in STARVING:
            self.check_call(starving_row(crossing, rule, road), starving_row, crossing, rule, road)


class FullFlowTest(Checks, unittest.TestCase):
    def test_by_hand(self):
        for crossing in CROSSINGS:
            for rule in RULES:
                self.check_call(full_flow_of(crossing, rule), full_flow, crossing, rule)

    def test_as_long_rows_say(self):
        # Beside whole loops of at most 12 ticks there are few ticks at the beginning and at the end.
        for crossing in CROSSINGS:
            for rule in RULES[::4]:
                passed, ticks = full_flow(crossing, rule)
                counts = play(crossing, rule, [3] * 1000)[2]
                self.assertLess(abs(sum(pair[0] for pair in counts) * ticks - 1000 * passed), 20 * ticks)


class ExceptionsTest(Checks, unittest.TestCase):
    def test_no_crossing(self):
        for crossing in NO_CROSSINGS:
            for function in OF_KINDS:
                self.check_raises(InvalidCrossing, function, crossing, R, 3)
            self.check_raises(InvalidCrossing, starving_row, crossing, R, 1)
            self.check_raises(InvalidCrossing, full_flow, crossing, R)

    def test_no_rule(self):
        for rule in NO_RULES:
            for function in OF_KINDS:
                self.check_raises(InvalidRule, function, C, rule, 3)
            self.check_raises(InvalidRule, starving_row, C, rule, 1)
            self.check_raises(InvalidRule, full_flow, C, rule)

    def test_no_kind(self):
        for kind in NO_KINDS:
            for function in OF_KINDS:
                self.check_raises(InvalidKind, function, C, R, kind)

    def test_no_road(self):
        for road in NO_ROADS:
            self.check_raises(InvalidRoad, starving_row, C, R, road)
            self.check_raises(InvalidRoad, starving_row, C, ("longer", 1), road)

    def test_the_first_one_is_raised_if_several_apply(self):
        for wrong in (None, True, False, "", [(None,)], 5, -1, (1,)):
            for function in OF_KINDS + (starving_row,):
                self.check_raises(InvalidCrossing, function, wrong, wrong, wrong)
                self.check_raises(InvalidCrossing, function, wrong, R, wrong)
                self.check_raises(InvalidCrossing, function, wrong, wrong, 1)
                self.check_raises(InvalidRule, function, C, wrong, wrong)
            self.check_raises(InvalidCrossing, full_flow, wrong, wrong)


if __name__ == "__main__":
    unittest.main()
