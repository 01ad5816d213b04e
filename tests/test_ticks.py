import copy
import inspect
import itertools
import unittest

from lightrules import ticks
from lightrules.crossings import family
from lightrules.errors import InvalidComings, InvalidCrossing, InvalidRule
from lightrules.ticks import counts_along, lights_along, lines_along
from tests.history import play
from tests.samples import CROSSINGS, NO_COMINGS, NO_CROSSINGS, NO_RULES, NUMBERS, RULES

C = (2, 1)
R = ("asked", 2)
FUNCTIONS = (lights_along, lines_along, counts_along)


def long_rows(many, length):
    """Return rows of comings that look random and are the same in each run."""
    rows, seed = [], 1
    for _ in range(many):
        row = []
        for _ in range(length):
            seed = (seed * 1103515245 + 12345) % 2 ** 31
            row.append((seed >> 16) % 4)
        rows.append(row)
    return rows


def sparse_rows(many, length):
    """Return rows with long stretches without cars."""
    rows = long_rows(2 * many, length)
    return [[a if b == 0 else 0 for a, b in zip(*pair)] for pair in zip(rows[::2], rows[1::2])]


class InterfaceTest(unittest.TestCase):
    def test_functions_stand_in_this_module_with_their_arguments(self):
        for name in ("lights_along", "lines_along", "counts_along"):
            with self.subTest(name=name):
                found = getattr(ticks, name)
                self.assertEqual(found.__module__, "lightrules.ticks")
                names = list(inspect.signature(found).parameters)
                self.assertEqual(names, ["crossing", "rule", "comings"])

    def test_example(self):
        self.assertEqual(lights_along(C, R, [3, 0, 0, 0, 0]), [0, 0, None, 1, 1])

    def test_lines_and_counts_of_the_example(self):
        expected = [(0, 1), (0, 1), (0, 1), (0, 0), (0, 0)]
        self.assertEqual(lines_along(C, R, [3, 0, 0, 0, 0]), expected)
        expected = [(1, 0), (0, 0), (0, 0), (1, 0), (0, 0)]
        self.assertEqual(counts_along(C, R, [3, 0, 0, 0, 0]), expected)

    def test_kinds_of_values(self):
        for light in lights_along(C, R, [3, 0, 0, 0, 0]):
            self.assertIn(type(light), (int, type(None)))
        for function in (lines_along, counts_along):
            for pair in function(C, R, [3, 3, 3, 3, 3]):
                self.assertIs(type(pair), tuple)
                self.assertEqual([type(number) for number in pair], [int, int])

    def test_arguments_are_unchanged_and_answers_are_equal_again(self):
        comings = [3, 1, 2, 3, 0, 3]
        for function in FUNCTIONS:
            with self.subTest(function=function.__name__):
                one = function(C, R, comings)
                self.assertEqual(comings, [3, 1, 2, 3, 0, 3])
                self.assertEqual(function(C, R, comings), one)

    def test_a_new_list_at_each_call(self):
        for function in FUNCTIONS:
            for comings in ([], [3, 1, 2, 3, 0, 3]):
                with self.subTest(function=function.__name__, comings=comings):
                    one = function(C, R, comings)
                    kept = list(one)
                    self.assertIsNot(one, function(C, R, comings))
                    self.assertIsNot(one, comings)
                    one.append("more")
                    self.assertEqual(function(C, R, comings), kept)

    def test_no_comings_at_all(self):
        for function in FUNCTIONS:
            for crossing in CROSSINGS:
                for rule in RULES:
                    self.assertEqual(function(crossing, rule, []), [])


class ExceptionsTest(unittest.TestCase):
    def check_raises(self, expected, crossing, rule, comings):
        before = copy.deepcopy((crossing, rule, comings))
        for function in FUNCTIONS:
            with self.subTest(function=function.__name__, expected=expected.__name__):
                with self.assertRaises(expected) as caught:
                    function(crossing, rule, comings)
                self.assertIs(type(caught.exception), expected)
                self.assertEqual((crossing, rule, comings), before)

    def test_no_crossing(self):
        for crossing in NO_CROSSINGS:
            self.check_raises(InvalidCrossing, crossing, R, [3])

    def test_no_rule(self):
        for rule in NO_RULES:
            self.check_raises(InvalidRule, C, rule, [3])

    def test_no_comings(self):
        for comings in NO_COMINGS:
            self.check_raises(InvalidComings, C, R, comings)

    def test_the_first_one_is_raised_if_several_apply(self):
        for wrong in (None, True, "", [(None,)], 5):
            self.check_raises(InvalidCrossing, wrong, wrong, wrong)
            self.check_raises(InvalidCrossing, wrong, wrong, [3])
            self.check_raises(InvalidCrossing, wrong, R, wrong)
            self.check_raises(InvalidRule, C, wrong, wrong)

    def test_wrong_comings_are_found_wherever_they_stand(self):
        for at in range(40):
            comings = [0] * 40
            comings[at] = 4
            self.check_raises(InvalidComings, C, R, comings)


class RowsTest(unittest.TestCase):
    def check_history(self, crossing, rule, comings):
        lights, lines, counts = play(crossing, rule, comings)
        where = (crossing, rule, comings)
        self.assertEqual(lights_along(crossing, rule, comings), lights, where)
        self.assertEqual(lines_along(crossing, rule, comings), lines, where)
        self.assertEqual(counts_along(crossing, rule, comings), counts, where)

    def test_all_rows_of_four_comings_as_the_history_says(self):
        for row in itertools.product(range(4), repeat=4):
            for crossing in CROSSINGS:
                for rule in RULES:
                    self.check_history(crossing, rule, list(row))

    def test_long_rows_as_the_history_says(self):
        for row in long_rows(8, 40) + sparse_rows(8, 40):
            for crossing in CROSSINGS:
                for rule in RULES:
                    self.check_history(crossing, rule, row)

    def test_cars_that_came_have_passed_were_lost_or_wait(self):
        for row in long_rows(4, 40):
            came = [(coming & 1) + (coming >> 1) for coming in row]
            for crossing in CROSSINGS:
                for rule in family():
                    lines = lines_along(crossing, rule, row)
                    gone = [sum(pair) for pair in counts_along(crossing, rule, row)]
                    for many in range(41):
                        waiting = sum(lines[many - 1]) if many else 0
                        self.assertEqual(sum(came[:many]), sum(gone[:many]) + waiting)

    def test_at_most_room_cars_wait_and_at_most_one_passes(self):
        for row in long_rows(4, 40):
            for crossing in CROSSINGS:
                for rule in family():
                    for line in lines_along(crossing, rule, row):
                        self.assertTrue(0 <= min(line) and max(line) <= crossing[0])
                    for passed, lost in counts_along(crossing, rule, row):
                        self.assertTrue(passed in (0, 1) and lost in (0, 1, 2))

    def test_lights_of_clocks_do_not_hang_on_the_comings(self):
        rows = [[coming] * 40 for coming in range(4)] + long_rows(4, 40)
        for crossing in CROSSINGS:
            for a in NUMBERS:
                for b in NUMBERS:
                    found = [lights_along(crossing, ("clock", a, b), row) for row in rows]
                    self.assertEqual(found, [found[0]] * len(rows))

    def test_what_comes_later_changes_no_earlier_tick(self):
        for row in long_rows(2, 40):
            for crossing in CROSSINGS:
                for rule in family():
                    for function in FUNCTIONS:
                        whole = function(crossing, rule, row)
                        self.assertEqual(function(crossing, rule, row[:17]), whole[:17])


if __name__ == "__main__":
    unittest.main()
