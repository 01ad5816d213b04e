"""Rows of comings that were played by hand from the words of [0.6] and [0.7].

Each row is (crossing, rule, comings, lights, lines, counts): a figure for each coming, "0", "1"
or "-" for each light, two figures for the cars in both lines at the end of each tick, and two for
the cars that pass and are lost in it.
"""

import unittest

from lightrules.ticks import counts_along, lights_along, lines_along

CLOCK = [
    ((1, 0), ("clock", 2, 1), "333333", "001001",
     "01 01 10 01 01 10", "10 11 11 11 11 11"),
    ((3, 0), ("clock", 2, 1), "33333300", "00100100",
     "01 02 12 13 13 22 12 02", "10 10 10 10 11 11 10 10"),
    ((1, 1), ("clock", 2, 1), "30201123", "00-1-00-",
     "01 01 01 00 10 00 01 11", "10 00 01 10 00 11 00 01"),
    ((3, 1), ("clock", 2, 1), "1133333", "00-1-00",
     "00 00 11 21 32 23 23", "10 10 00 10 00 11 11"),
    ((1, 2), ("clock", 1, 3), "0333201220", "0--111--0-",
     "00 11 11 10 10 10 10 11 01 01", "00 00 02 12 10 00 01 00 11 00"),
    ((3, 2), ("clock", 1, 3), "3333333", "0--111-",
     "01 12 23 32 32 32 33", "10 00 00 11 11 11 01"),
]

ASKED = [
    ((1, 0), ("asked", 2), "2231110", "0011000",
     "01 01 10 10 00 00 00", "00 01 11 01 11 10 00"),
    ((1, 0), ("asked", 1), "2013021", "0101010",
     "01 00 00 10 00 00 00", "00 10 10 10 10 10 10"),
    ((3, 0), ("asked", 1), "333300", "010101",
     "01 11 12 22 12 11", "10 10 10 10 10 10"),
    ((1, 1), ("asked", 2), "00220010", "00-111-0",
     "00 00 01 00 00 00 10 00", "00 00 00 11 00 00 00 10"),
    ((3, 1), ("asked", 2), "322011000", "00-11-00-",
     "01 02 03 02 11 21 11 01 01", "10 00 00 10 10 00 10 10 00"),
    ((1, 2), ("asked", 1), "13330300", "0--1--0-",
     "00 11 11 10 10 11 01 01", "10 00 02 12 00 01 10 00"),
    ((3, 2), ("asked", 3), "211110111", "000--111-",
     "01 01 01 11 21 20 30 30 30", "00 10 10 00 00 10 00 01 01"),
]

EMPTY = [
    ((1, 0), ("empty", 2), "2311320", "1100110",
     "00 10 00 00 10 10 00", "10 10 11 10 10 10 10"),
    ((3, 0), ("empty", 3), "33333000", "00011100",
     "01 02 03 12 22 21 11 01", "10 10 10 11 10 10 10 10"),
    ((1, 1), ("empty", 1), "2031002", "-1-0-11",
     "01 00 11 01 01 00 00", "00 10 00 11 00 10 10"),
    ((3, 1), ("empty", 4), "131310020", "0000-111-",
     "00 01 01 02 12 11 10 10 10", "10 10 10 10 00 10 10 10 00"),
    ((1, 2), ("empty", 3), "212003111", "--1--000-",
     "01 11 10 10 10 01 01 01 11", "00 00 11 00 00 11 10 10 00"),
    ((3, 2), ("empty", 2), "122230220", "0--11--0-",
     "00 01 02 02 12 12 13 03 03", "10 00 00 10 10 00 00 11 00"),
]

LONGER = [
    ((1, 0), ("longer", 1), "231030", "000110",
     "01 01 01 00 10 00", "00 11 10 10 10 10"),
    ((3, 0), ("longer", 2), "22031102", "00110001",
     "01 02 01 11 11 11 01 01", "00 00 10 10 10 10 10 10"),
    ((1, 1), ("longer", 1), "2021310", "0-1-00-",
     "01 01 00 10 01 01 01", "00 00 11 00 11 10 00"),
    ((3, 1), ("longer", 3), "222311120", "000-111-0",
     "01 02 03 13 22 31 30 31 21", "00 00 00 01 10 10 11 00 10"),
    ((1, 2), ("longer", 2), "0021202000", "00--111--0",
     "00 00 01 11 10 10 10 10 10 00", "00 00 00 00 11 00 10 00 00 10"),
    ((3, 2), ("longer", 1), "3233310000", "0--11--00-",
     "01 02 13 22 32 32 32 22 12 12", "10 00 00 11 10 01 00 10 10 00"),
]

GAP = [
    ((1, 0), ("gap", 1, 3), "2210131", "0110001",
     "01 00 10 00 00 01 10", "00 11 00 10 10 10 10"),
    ((3, 0), ("gap", 2, 4), "210200001", "000011110",
     "01 01 01 02 01 00 00 00 00", "00 10 00 00 10 10 00 00 10"),
    ((3, 0), ("gap", 3, 4), "0200", "0001",
     "00 01 01 00", "00 00 00 10"),
    ((1, 1), ("gap", 2, 4), "122010200", "000-1111-",
     "00 01 01 01 10 10 10 10 10", "10 00 01 00 10 00 10 00 00"),
    ((3, 1), ("gap", 1, 3), "333330000", "000-111-0",
     "01 02 03 13 22 21 20 20 10", "10 10 10 01 11 10 10 00 10"),
    ((1, 2), ("gap", 1, 2), "0213220000", "0--11--00-",
     "00 01 11 10 10 11 11 01 01 01", "00 00 00 12 10 00 00 10 00 00"),
    ((3, 2), ("gap", 3, 4), "201002001111", "0000--1111--",
     "01 01 01 01 01 02 01 00 10 20 30 30", "00 00 10 00 00 00 10 10 00 00 00 01"),
]

DUE = [
    ((1, 0), ("due", 1), "2120332", "0101101",
     "01 10 01 00 10 01 00", "00 10 10 10 10 11 11"),
    ((3, 0), ("due", 2), "3333330", "0011001",
     "01 02 12 22 23 23 22", "10 10 10 10 10 11 10"),
    ((1, 1), ("due", 1), "210230010", "0-1-0-11-",
     "01 11 10 11 01 01 00 10 10", "00 00 10 00 12 00 10 00 00"),
    ((3, 1), ("due", 3), "31130102222", "000-11-000-",
     "01 01 01 12 11 20 20 11 02 03 03", "10 10 10 00 10 10 00 10 10 00 01"),
    ((1, 2), ("due", 2), "201130200", "00--1--0-",
     "01 01 11 11 10 10 11 01 01", "00 00 00 01 12 00 00 10 00"),
    ((3, 2), ("due", 4), "3210320000000", "0000--11--00-",
     "01 02 02 02 13 13 12 11 11 11 01 01 01", "10 00 10 00 00 01 10 10 00 00 10 00 00"),
]

LIGHTS = {"0": 0, "1": 1, "-": None}


def pairs(text):
    return [(int(pair[0]), int(pair[1])) for pair in text.split()]


class ByHandTest(unittest.TestCase):
    def check_row(self, crossing, rule, comings, lights, lines, counts):
        with self.subTest(crossing=crossing, rule=rule, comings=comings):
            row = [int(figure) for figure in comings]
            expected = [LIGHTS[sign] for sign in lights]
            self.assertEqual(lights_along(crossing, rule, row), expected)
            self.assertEqual(lines_along(crossing, rule, row), pairs(lines))
            self.assertEqual(counts_along(crossing, rule, row), pairs(counts))

    def check_rows(self, word, rows):
        played = [(crossing, rule[0]) for crossing, rule, *_ in rows]
        for room in (1, 3):
            for pause in (0, 1, 2):
                self.assertIn(((room, pause), word), played)
        for row in rows:
            self.check_row(*row)

    def test_clock(self):
        self.check_rows("clock", CLOCK)

    def test_asked(self):
        self.check_rows("asked", ASKED)

    def test_empty(self):
        self.check_rows("empty", EMPTY)

    def test_longer(self):
        self.check_rows("longer", LONGER)

    def test_gap(self):
        self.check_rows("gap", GAP)

    def test_due(self):
        self.check_rows("due", DUE)

    def test_a_full_line_loses_a_car(self):
        # The car is lost although one passes in the same tick: the cars come first.
        self.check_row((1, 0), ("asked", 4), "223", "000", "01 01 01", "00 01 11")
        self.check_row((3, 0), ("asked", 4), "2222", "0000", "01 02 03 03", "00 00 00 01")
        self.check_row((1, 2), ("clock", 1, 1), "2112", "0--1", "01 11 11 10", "00 00 01 11")

    def test_a_change_at_once_with_pause_0(self):
        # The other road is green in the very tick, from the first one on.
        self.check_row((1, 0), ("empty", 4), "2", "1", "00", "10")
        self.check_row((2, 0), ("clock", 1, 1), "32", "01", "01 01", "10 10")

    def test_a_change_with_a_pause_begins_in_the_very_tick(self):
        self.check_row((1, 1), ("empty", 4), "20", "-1", "01 00", "00 10")
        self.check_row((1, 2), ("empty", 4), "200", "--1", "01 01 00", "00 00 10")

    def test_the_rule_is_not_asked_in_the_first_tick_behind_a_pause(self):
        # Behind the pause road 0 has waited for as many ticks as the pause has, so the rule would
        # change if it were asked; it is asked a tick later, and changes then.
        self.check_row((1, 1), ("due", 1), "2100", "0-1-", "01 11 10 10", "00 00 10 00")
        self.check_row((1, 2), ("due", 1), "21000", "0--1-", "01 11 11 10 10", "00 00 00 10 00")

    def test_a_wait_runs_on_through_a_pause(self):
        # The ticks of the pause, 4 or 5 and 6, and the two behind it are the wait of road 0.
        self.check_row((1, 1), ("due", 3), "2003", "000-", "01 01 01 11", "00 00 00 01")
        self.check_row((1, 1), ("due", 3), "2003000", "000-11-",
                       "01 01 01 11 10 10 10", "00 00 00 01 10 00 00")
        self.check_row((1, 2), ("due", 4), "20003000", "0000--11",
                       "01 01 01 01 11 11 10 10", "00 00 00 00 01 00 10 00")
        self.check_row((1, 2), ("due", 4), "200030000", "0000--11-",
                       "01 01 01 01 11 11 10 10 10", "00 00 00 00 01 00 10 00 00")

    def test_a_wait_begins_behind_the_last_green_tick(self):
        # Road 1 keeps two cars in tick 4, in which it is green: in tick 6 its wait is 1, not 2.
        self.check_row((3, 0), ("due", 2), "333333", "001100",
                       "01 02 12 22 23 23", "10 10 10 10 10 11")

    def test_a_rest_ends_when_a_car_passes(self):
        # Ticks without a passing car on both sides of tick 2 are not added up.
        self.check_row((1, 0), ("gap", 2, 4), "0122", "0000", "00 00 01 01", "00 10 00 01")
        self.check_row((1, 0), ("gap", 2, 4), "0102", "0000", "00 00 00 01", "00 10 00 00")
        self.check_row((1, 0), ("gap", 2, 4), "0002", "0001", "00 00 00 00", "00 00 00 10")

    def test_an_empty_list_of_comings(self):
        for rows in (CLOCK, ASKED, EMPTY, LONGER, GAP, DUE):
            for crossing, rule, *_ in rows:
                self.check_row(crossing, rule, "", "", "", "")

    def test_forty_comings(self):
        self.check_row((2, 1), ("clock", 2, 1), "3" * 40, "00-1-" * 8,
                       "01 02 12 21 22 " + "12 12 22 21 22 " * 7,
                       "10 10 01 11 01 " + "12 11 01 12 01 " * 7)
        self.check_row((3, 2), ("asked", 4), "0" * 39 + "2", "0" * 39 + "-",
                       "00 " * 39 + "01", "00 " * 40)
        self.check_row((1, 0), ("gap", 4, 4), "0" * 39 + "2", "0" * 39 + "1",
                       "00 " * 40, "00 " * 39 + "10")


if __name__ == "__main__":
    unittest.main()
