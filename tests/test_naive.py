import itertools
import unittest

from lightrules import naive
from lightrules.comparing import parting_comings
from lightrules.crossings import family
from lightrules.errors import InvalidCount, InvalidCrossing, InvalidKind, InvalidRule
from lightrules.losses import first_loss
from lightrules.naive import naive_loss, naive_parting
from tests.checks import Checks
from tests.history import play
from tests.oracles import comings_of, listed_parting
from tests.samples import COUNTS, CROSSINGS, KINDS, NO_COUNTS, NO_CROSSINGS, NO_KINDS, NO_RULES, RULES

C = (2, 1)
R = ("asked", 2)

# (crossing, one, other, kind, many, row or None), played by hand.
PARTINGS = [
    (C, R, ("asked", 1), 3, 5, [0, 2]),
    (C, R, ("asked", 1), 3, 2, [0, 2]),
    (C, R, ("asked", 1), 3, 1, None),
    (C, R, ("asked", 1), 3, 0, None),
    (C, R, ("asked", 1), 1, 5, None),
    (C, R, ("asked", 1), 0, 5, None),
    (C, R, R, 3, 5, None),
    ((1, 0), ("asked", 3), ("asked", 4), 3, 4, [0, 0, 0, 2]),
    ((1, 0), ("asked", 3), ("asked", 4), 3, 3, None),
    ((1, 2), ("clock", 1, 1), ("clock", 1, 2), 3, 5, [0] * 5),
    ((1, 2), ("clock", 1, 1), ("clock", 1, 2), 3, 4, None),
    # 0000--1111 and 0000--111-: ten comings are needed.
    ((3, 2), ("clock", 4, 4), ("clock", 4, 3), 3, 5, None),
    (C, ("empty", 2), ("gap", 1, 3), 2, 1, [2]),
    ((3, 1), ("asked", 3), ("gap", 3, 3), 3, 5, None),
]

# (crossing, rule, many, cars lost), played by hand.
LOSSES = [
    (C, R, 3, 1),
    (C, R, 2, 0),
    (C, R, 0, 0),
    # Lights 01010 in full lines of one car: the first tick loses none, each other one loses one.
    ((1, 0), ("clock", 1, 1), 5, 4),
    ((1, 0), ("clock", 1, 1), 1, 0),
    # Lights 0--1-: of the cars that come on both roads 0, 1, 2, 2 and 1 are lost.
    ((1, 2), ("asked", 1), 5, 6),
    # Lights 0000-: line 1 is full behind three ticks, line 0 stays empty until tick 5.
    ((3, 2), ("clock", 4, 4), 5, 2),
    # Lights 00001: likewise, and the car of tick 5 comes ahead of the change.
    ((3, 0), ("longer", 4), 5, 2),
]


class InterfaceTest(Checks, unittest.TestCase):
    def test_functions_stand_in_this_module_with_their_arguments(self):
        self.check_interface(naive, {
            "naive_parting": ["crossing", "one", "other", "kind", "many"],
            "naive_loss": ["crossing", "rule", "many"],
        })

    def test_example(self):
        self.check_call(1, naive_loss, C, R, 3)

    def test_new_lists(self):
        self.check_new_list(naive_parting, C, R, ("asked", 1), 3, 5)


class PartingTest(Checks, unittest.TestCase):
    def test_by_hand(self):
        for crossing, one, other, kind, many, expected in PARTINGS:
            self.check_call(expected, naive_parting, crossing, one, other, kind, many)
            self.check_call(expected, naive_parting, crossing, other, one, kind, many)

    def check_parting(self, crossing, one, other, kind, many):
        """Check that the row is the same as that of parting_comings, if it is short enough."""
        row = parting_comings(crossing, one, other, kind)
        expected = row if row is not None and len(row) <= many else None
        found = naive_parting(crossing, one, other, kind, many)
        self.assertEqual(found, expected, (crossing, one, other, kind, many))

    def test_all_rules_with_many_from_0_to_3(self):
        for at, crossing in enumerate(CROSSINGS):
            for one, other in list(itertools.combinations_with_replacement(RULES, 2))[at::3]:
                for kind in KINDS:
                    for many in (0, 1, 2, 3):
                        self.check_parting(crossing, one, other, kind, many)

    def test_many_4_and_5(self):
        for at, crossing in enumerate(CROSSINGS):
            for one, other in list(itertools.combinations_with_replacement(RULES, 2))[at * 5::67]:
                for kind in KINDS:
                    self.check_parting(crossing, one, other, kind, 4)
                    self.check_parting(crossing, one, other, kind, 5)

    def test_as_the_list_of_all_rows_of_the_history_says(self):
        for crossing in ((1, 0), (2, 1), (3, 2)):
            for one, other in itertools.combinations(family()[::4], 2):
                for kind in KINDS:
                    expected = listed_parting(crossing, one, other, kind, 4)
                    found = naive_parting(crossing, one, other, kind, 4)
                    self.assertEqual(found, expected, (crossing, one, other, kind))


class LossTest(Checks, unittest.TestCase):
    def test_by_hand(self):
        for crossing, rule, many, expected in LOSSES:
            self.check_call(expected, naive_loss, crossing, rule, many)

    def test_as_the_list_of_all_rows_of_the_history_says(self):
        for at, crossing in enumerate(CROSSINGS):
            for rule in RULES:
                for many in (0, 1, 2, 3):
                    self.check_call(listed_loss(crossing, rule, many), naive_loss, crossing, rule, many)
            for rule in RULES[at::9]:
                self.check_call(listed_loss(crossing, rule, 5), naive_loss, crossing, rule, 5)

    def test_no_car_is_lost_ahead_of_the_first_loss(self):
        for crossing in CROSSINGS:
            for rule in RULES[::3]:
                row = first_loss(crossing, rule, 3)
                for many in (0, 1, 2, 3, 4):
                    found = naive_loss(crossing, rule, many)
                    self.assertIs(type(found), int)
                    self.assertEqual(found == 0, row is None or many < len(row))


def listed_loss(crossing, rule, many):
    rows = itertools.product(comings_of(3), repeat=many)
    return max(sum(pair[1] for pair in play(crossing, rule, row)[2]) for row in rows)


class ExceptionsTest(Checks, unittest.TestCase):
    def test_no_crossing(self):
        for crossing in NO_CROSSINGS:
            self.check_raises(InvalidCrossing, naive_parting, crossing, R, R, 3, 2)
            self.check_raises(InvalidCrossing, naive_loss, crossing, R, 2)

    def test_no_rule(self):
        for rule in NO_RULES:
            self.check_raises(InvalidRule, naive_parting, C, rule, R, 3, 2)
            self.check_raises(InvalidRule, naive_parting, C, R, rule, 3, 2)
            self.check_raises(InvalidRule, naive_loss, C, rule, 2)

    def test_no_kind(self):
        for kind in NO_KINDS:
            self.check_raises(InvalidKind, naive_parting, C, R, ("asked", 1), kind, 2)
            self.check_raises(InvalidKind, naive_parting, C, R, R, kind, 0)

    def test_no_count(self):
        for many in NO_COUNTS:
            self.check_raises(InvalidCount, naive_parting, C, R, ("asked", 1), 3, many)
            self.check_raises(InvalidCount, naive_parting, C, R, R, 0, many)
            self.check_raises(InvalidCount, naive_loss, C, R, many)

    def test_counts_at_the_ends(self):
        for many in COUNTS:
            self.check_call(None, naive_parting, C, R, R, 1, many)
        for many in (-1, 6):
            self.check_raises(InvalidCount, naive_parting, C, R, R, 1, many)
            self.check_raises(InvalidCount, naive_loss, C, R, many)

    def test_the_first_one_is_raised_if_several_apply(self):
        for wrong in (None, True, "", [(None,)], 6, -1, (3,)):
            self.check_raises(InvalidCrossing, naive_parting, wrong, wrong, wrong, wrong, wrong)
            self.check_raises(InvalidCrossing, naive_parting, wrong, R, R, 3, wrong)
            self.check_raises(InvalidRule, naive_parting, C, wrong, wrong, wrong, wrong)
            self.check_raises(InvalidRule, naive_parting, C, R, wrong, wrong, wrong)
            self.check_raises(InvalidRule, naive_parting, C, wrong, R, 3, wrong)
            self.check_raises(InvalidKind, naive_parting, C, R, R, wrong, wrong)
            self.check_raises(InvalidCrossing, naive_loss, wrong, wrong, wrong)
            self.check_raises(InvalidCrossing, naive_loss, wrong, R, wrong)
            self.check_raises(InvalidRule, naive_loss, C, wrong, wrong)


if __name__ == "__main__":
    unittest.main()
