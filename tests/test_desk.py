import inspect
import unittest
from unittest import mock

from lightrules import desk
from lightrules.crossings import family
from lightrules.desk import Desk
from lightrules.errors import InvalidComing, InvalidCrossing, InvalidRule, NothingToUndo, TooLong
from tests.checks import Checks
from tests.history import play
from tests.samples import CROSSINGS, NO_CROSSINGS, NO_KINDS, NO_RULES, RULES
from tests.test_ticks import long_rows

C = (2, 1)
R = ("asked", 2)

# What is no coming is no kind either: both are the integers from 0 to 3.
NO_SINGLE_COMINGS = NO_KINDS

METHODS = {
    "tick": ["self", "coming"], "comings": ["self"], "lights": ["self"], "lines": ["self"],
    "totals": ["self"], "undo": ["self"], "redo": ["self"], "copy": ["self"],
    "__eq__": ["self", "other"], "__len__": ["self"], "__init__": ["self", "crossing", "rule"],
}


def desk_with(comings, crossing=C, rule=R):
    made = Desk(crossing, rule)
    for coming in comings:
        made.tick(coming)
    return made


def undone_of(told):
    """Return the comings that a desk would play again, asked of a copy."""
    again, found = told.copy(), []
    while True:
        try:
            found.append(again.redo())
        except NothingToUndo:
            return found


class DeskChecks(Checks):
    def check_desk(self, told, crossing, rule, comings, undone):
        """Check all that a desk tells, against the player of history.py."""
        lights, ends, counts = play(crossing, rule, comings)
        totals = (sum(pair[0] for pair in counts), sum(pair[1] for pair in counts))
        self.assertEqual(told.comings(), comings)
        self.assertEqual(told.lights(), lights)
        self.assertEqual(told.lines(), ends[-1] if ends else (0, 0))
        self.assertEqual(told.totals(), totals)
        self.assertEqual(len(told), len(comings))
        self.assertEqual(undone_of(told), undone[::-1])

    def check_fails(self, expected, told, function, *arguments):
        """Check that a call raises just this exception, and that the desk stays as it was."""
        before = (told.comings(), told.lights(), told.lines(), told.totals(), len(told), undone_of(told))
        with self.assertRaises(expected) as caught:
            function(*arguments)
        self.assertIs(type(caught.exception), expected)
        after = (told.comings(), told.lights(), told.lines(), told.totals(), len(told), undone_of(told))
        self.assertEqual(after, before)


class InterfaceTest(DeskChecks, unittest.TestCase):
    def test_the_class_and_its_methods_stand_in_this_module(self):
        self.assertEqual(Desk.__module__, desk.__name__)
        for name, arguments in METHODS.items():
            with self.subTest(name=name):
                self.assertIn(name, vars(Desk))
                self.assertEqual(list(inspect.signature(vars(Desk)[name]).parameters), arguments)

    def test_example(self):
        told = Desk(C, R)
        told.tick(3)
        self.assertEqual(told.lines(), (0, 1))

    def test_kinds_of_values(self):
        for told in (Desk(C, R), desk_with([3, 3, 0, 2])):
            self.assertEqual([type(told.comings()), type(told.lights())], [list, list])
            for pair in (told.lines(), told.totals()):
                self.assertEqual([type(pair)] + [type(number) for number in pair], [tuple, int, int])
            self.assertIs(type(len(told)), int)
            self.assertIs(type(told.copy()), Desk)
            self.assertIs(told == told.copy(), True)
            self.assertIs(told != told.copy(), False)

    def test_new_lists(self):
        for comings in ([], [3, 3, 0, 2]):
            told = desk_with(comings)
            self.check_new_list(told.comings)
            self.check_new_list(told.lights)
            self.check_desk(told, C, R, comings, [])

    def test_asking_changes_nothing(self):
        told = desk_with([3, 3, 0, 2])
        told.undo()
        for method in (told.comings, told.lights, told.lines, told.totals, told.__len__, told.copy):
            self.assertEqual(method(), method())
            self.check_desk(told, C, R, [3, 3, 0], [2])


class TicksTest(DeskChecks, unittest.TestCase):
    def test_ahead_of_the_first_tick(self):
        for crossing in CROSSINGS:
            for rule in RULES:
                self.check_desk(Desk(crossing, rule), crossing, rule, [], [])

    def test_by_hand(self):
        told = Desk(C, R)
        seen = [(told.tick(coming), told.lines(), told.totals()) for coming in (3, 0, 0, 0, 0)]
        self.assertEqual(seen, [
            (0, (0, 1), (1, 0)), (0, (0, 1), (1, 0)), (None, (0, 1), (1, 0)),
            (1, (0, 0), (2, 0)), (1, (0, 0), (2, 0)),
        ])
        told = Desk((1, 0), ("clock", 2, 1))
        seen = [(told.tick(3), told.lines(), told.totals()) for _ in range(4)]
        self.assertEqual(seen, [
            (0, (0, 1), (1, 0)), (0, (0, 1), (2, 1)), (1, (1, 0), (3, 2)), (0, (0, 1), (4, 3)),
        ])

    def test_forty_ticks_as_the_history_says(self):
        for row in long_rows(2, 40):
            for crossing in CROSSINGS:
                for rule in RULES:
                    told = Desk(crossing, rule)
                    found = [told.tick(coming) for coming in row]
                    self.assertEqual(found, play(crossing, rule, row)[0])
                    self.check_desk(told, crossing, rule, row, [])

    def test_desks_as_the_history_says_in_each_tick(self):
        row = long_rows(1, 40)[0]
        for crossing in CROSSINGS:
            for rule in family()[::6]:
                told = Desk(crossing, rule)
                for many in range(40):
                    self.check_desk(told, crossing, rule, row[:many], [])
                    told.tick(row[many])

    def test_cars_that_came_have_passed_were_lost_or_wait(self):
        for row in long_rows(3, 40):
            came = sum((coming & 1) + (coming >> 1) for coming in row)
            for crossing in CROSSINGS:
                for rule in RULES:
                    told = desk_with(row, crossing, rule)
                    self.assertEqual(sum(told.totals()) + sum(told.lines()), came)

    def test_forty_ticks_are_the_most(self):
        for comings in ([0] * 40, long_rows(1, 40)[0]):
            told = desk_with(comings[:39])
            told.tick(comings[39])
            for coming in range(4):
                self.check_fails(TooLong, told, told.tick, coming)
            self.check_desk(told, C, R, comings, [])
            told.undo()
            told.tick(comings[39])
            self.check_desk(told, C, R, comings, [])


class UndoTest(DeskChecks, unittest.TestCase):
    def test_by_hand(self):
        told = desk_with([3, 1, 2])
        self.assertEqual(told.undo(), 2)
        self.assertEqual(told.undo(), 1)
        self.check_desk(told, C, R, [3], [2, 1])
        self.assertEqual(told.redo(), 1)
        self.check_desk(told, C, R, [3, 1], [2])
        self.assertEqual(told.redo(), 2)
        self.check_desk(told, C, R, [3, 1, 2], [])

    def test_nothing_to_undo_or_to_redo(self):
        told = Desk(C, R)
        self.check_fails(NothingToUndo, told, told.undo)
        self.check_fails(NothingToUndo, told, told.redo)
        told.tick(2)
        self.check_fails(NothingToUndo, told, told.redo)
        told.undo()
        self.check_fails(NothingToUndo, told, told.undo)
        self.assertEqual(told.redo(), 2)
        self.check_fails(NothingToUndo, told, told.redo)
        self.check_desk(told, C, R, [2], [])

    def test_to_both_ends(self):
        row = long_rows(1, 40)[0]
        for crossing in CROSSINGS:
            for rule in family()[::5]:
                told = desk_with(row, crossing, rule)
                self.assertEqual([told.undo() for _ in range(40)], row[::-1])
                self.check_fails(NothingToUndo, told, told.undo)
                self.check_desk(told, crossing, rule, [], row[::-1])
                self.assertEqual([told.redo() for _ in range(40)], row)
                self.check_fails(NothingToUndo, told, told.redo)
                self.check_fails(TooLong, told, told.tick, 0)
                self.check_desk(told, crossing, rule, row, [])

    def test_a_new_tick_clears_what_can_be_redone(self):
        told = desk_with([3, 1, 2])
        told.undo()
        told.undo()
        told.tick(1)
        self.check_desk(told, C, R, [3, 1], [])
        self.check_fails(NothingToUndo, told, told.redo)
        self.assertEqual(told.undo(), 1)
        self.assertEqual(told.redo(), 1)
        self.check_fails(NothingToUndo, told, told.redo)

    def test_a_call_that_raises_clears_nothing(self):
        told = desk_with([3, 1, 2])
        told.undo()
        for coming in NO_SINGLE_COMINGS:
            self.check_fails(InvalidComing, told, told.tick, coming)
        self.assertEqual(told.redo(), 2)
        self.check_desk(told, C, R, [3, 1, 2], [])

    def test_long_mixtures_of_calls_as_two_lists_say(self):
        for at, orders in enumerate(long_rows(60, 150)):
            crossing, rule = CROSSINGS[at % 9], RULES[at * 7 % 48]
            told, comings, undone = Desk(crossing, rule), [], []
            for tick, order in enumerate(orders):
                if order == 0 and comings:
                    undone.append(comings.pop())
                    self.assertEqual(told.undo(), undone[-1])
                elif order == 1 and undone:
                    comings.append(undone.pop())
                    self.assertEqual(told.redo(), comings[-1])
                elif len(comings) < 40:
                    comings.append(tick % 7 % 4)
                    undone = []
                    self.assertEqual(told.tick(comings[-1]), play(crossing, rule, comings)[0][-1])
                if tick % 10 == 9:
                    self.check_desk(told, crossing, rule, comings, undone)


class CopyTest(DeskChecks, unittest.TestCase):
    def made(self):
        told = desk_with([3, 1, 2, 0])
        told.undo()
        told.undo()
        return told

    def test_a_copy_has_the_same_state_and_history(self):
        told = self.made()
        again = told.copy()
        self.assertIsNot(again, told)
        self.assertEqual(again, told)
        self.check_desk(again, C, R, [3, 1], [0, 2])
        self.assertEqual([again.redo(), again.redo()], [2, 0])
        self.assertEqual([again.undo() for _ in range(4)], [0, 2, 1, 3])

    def test_copies_of_an_empty_and_of_a_full_desk(self):
        self.check_desk(Desk(C, R).copy(), C, R, [], [])
        full = desk_with([3] * 40).copy()
        self.check_desk(full, C, R, [3] * 40, [])
        self.check_fails(TooLong, full, full.tick, 0)

    def test_the_first_stays_as_it_was_when_a_copy_is_changed_and_the_other_way_round(self):
        for change in (lambda told: told.tick(2), Desk.undo, Desk.redo):
            told = self.made()
            again = told.copy()
            change(again)
            self.check_desk(told, C, R, [3, 1], [0, 2])
            self.assertNotEqual(again, told)
            told = self.made()
            again = told.copy()
            change(told)
            self.check_desk(again, C, R, [3, 1], [0, 2])
            self.assertNotEqual(again, told)

    def test_a_copy_of_a_copy(self):
        told = self.made()
        again = told.copy().copy()
        again.tick(3)
        self.check_desk(told, C, R, [3, 1], [0, 2])
        self.check_desk(again, C, R, [3, 1, 3], [])


class Likeness:
    """An object that holds all that a desk holds, and says that it is equal to anything."""

    def __init__(self, told):
        vars(self).update(vars(told))

    def __eq__(self, other):
        return True


class EqualTest(DeskChecks, unittest.TestCase):
    def test_equal_crossings_rules_and_comings(self):
        for comings in ([], [3], [3, 0, 1, 2], [0] * 40):
            self.assertTrue(desk_with(comings) == desk_with(comings))
            self.assertFalse(desk_with(comings) != desk_with(comings))

    def test_unlike_crossings_rules_or_comings(self):
        told = desk_with([3, 0, 1])
        others = [
            desk_with([3, 0]), desk_with([3, 0, 1, 0]), desk_with([3, 0, 3]), desk_with([]),
            desk_with([3, 0, 1], (2, 2)), desk_with([3, 0, 1], (3, 1)), desk_with([3, 0, 1], (2, 0)),
            desk_with([3, 0, 1], C, ("asked", 3)), desk_with([3, 0, 1], C, ("due", 2)),
            desk_with([3, 0, 1], C, ("longer", 2)), desk_with([3, 0, 1], C, ("clock", 2, 2)),
        ]
        for other in others:
            self.assertFalse(told == other)
            self.assertFalse(other == told)
            self.assertTrue(told != other)

    def test_rules_with_the_same_lights_are_unlike(self):
        self.assertNotEqual(Desk(C, ("asked", 3)), Desk(C, ("gap", 3, 3)))

    def test_what_can_be_redone_does_not_count(self):
        told = desk_with([3, 0, 1])
        told.undo()
        self.assertEqual(told, desk_with([3, 0]))
        self.assertEqual(desk_with([3, 0]), told)

    def test_no_other_object_is_equal(self):
        told = desk_with([3, 0])
        others = [
            None, True, False, 0, 2, "", "30", [], [3, 0], (C, R, [3, 0]), [C, R, [3, 0]], Desk,
            object(), Likeness(told), mock.ANY, {}, {"comings": [3, 0]}, told.comings,
        ]
        for other in others:
            self.assertIs(told == other, False)
            self.assertIs(told != other, True)


class ExceptionsTest(DeskChecks, unittest.TestCase):
    def test_no_crossing(self):
        for crossing in NO_CROSSINGS:
            self.check_raises(InvalidCrossing, Desk, crossing, R)

    def test_no_rule(self):
        for rule in NO_RULES:
            self.check_raises(InvalidRule, Desk, C, rule)

    def test_the_first_one_is_raised_if_several_apply(self):
        for wrong in (None, True, "", [(None,)], 5):
            self.check_raises(InvalidCrossing, Desk, wrong, wrong)
        full = desk_with([3] * 40)
        for coming in NO_SINGLE_COMINGS:
            self.check_fails(InvalidComing, full, full.tick, coming)

    def test_no_coming(self):
        for comings in ([], [3, 2, 1]):
            told = desk_with(comings)
            for coming in NO_SINGLE_COMINGS:
                self.check_fails(InvalidComing, told, told.tick, coming)
            self.check_desk(told, C, R, comings, [])


if __name__ == "__main__":
    unittest.main()
