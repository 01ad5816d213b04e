"""Slow answers for the tests, found in other ways than the package finds them.

listed_.. asks the player of history.py for each single row. The others search, but each rule is
played in a state of its own, and age, rest and wait are cut only beyond all numbers of rules.
What endless rows do is asked of history.py, too.
"""

import collections
import functools
import itertools

from lightrules.ticks import first_state, play_tick
from tests.history import play

BEYOND = 5


def comings_of(kind):
    return {0: (0,), 1: (0, 1), 2: (0, 2), 3: (0, 1, 2, 3)}[kind]


def rows_of(kind, most):
    """Yield the rows of comings of a kind with 1 to most comings, in their order."""
    for length in range(1, most + 1):
        yield from itertools.product(comings_of(kind), repeat=length)


@functools.lru_cache(maxsize=None)
def listed_lights(crossing, rule, row):
    return tuple(play(crossing, rule, row)[0])


def listed_parting(crossing, one, other, kind, most):
    """Return the first of the shortest parting rows of at most so many comings, or None."""
    for row in rows_of(kind, most):
        if listed_lights(crossing, one, row)[-1] != listed_lights(crossing, other, row)[-1]:
            return list(row)
    return None


def listed_rows(crossing, rule, length):
    """Return a dict from all lights that a rule shows to the ascending list of their rows."""
    rows = {}
    for row in itertools.product(range(4), repeat=length):
        rows.setdefault(listed_lights(crossing, rule, row), []).append(list(row))
    return rows


def advance(crossing, rule, state, coming):
    behind, light, _, _ = play_tick(crossing, rule, state, coming)
    return cut(behind), light


def cut(state):
    road, unasked, age, rest, wait, lines = state
    return road, unasked, min(age, BEYOND), min(rest, BEYOND), min(wait, BEYOND), lines


def start_of(rules):
    """Return what Plans asks for ahead of the first tick."""
    return tuple((rule, first_state()) for rule in rules)


def groups_behind(crossing, hidden, coming):
    """Return what hidden may be behind a coming, for each light that may be seen."""
    groups = {}
    for rule, state in hidden:
        behind, light = advance(crossing, rule, state, coming)
        groups.setdefault(light, []).append((rule, behind))
    return [tuple(group) for group in groups.values()]


def parting(crossing, hidden, comings):
    """Return the first of the shortest rows of some comings that part hidden rules, or None."""
    return search(crossing, hidden, comings)[0]


def search(crossing, hidden, comings):
    """Return what parting returns, and all that the hidden rules may come to ahead of it."""
    rows = {hidden: []}
    waiting = [hidden]
    for place in waiting:
        for coming in comings:
            groups = groups_behind(crossing, place, coming)
            if len(groups) > 1:
                return rows[place] + [coming], waiting
            if groups[0] not in rows:
                rows[groups[0]] = rows[place] + [coming]
                waiting.append(groups[0])
    return None, waiting


def losing(crossing, rule, comings):
    """Return the first of the shortest rows of some comings that end with a loss, or None."""
    rows = {first_state(): []}
    waiting = [first_state()]
    for state in waiting:
        for coming in comings:
            behind, _, _, lost = play_tick(crossing, rule, state, coming)
            if lost > 0:
                return rows[state] + [coming]
            if cut(behind) not in rows:
                rows[cut(behind)] = rows[state] + [coming]
                waiting.append(cut(behind))
    return None


def loses_no_more(crossing, rule, comings, fraction):
    """Return whether no loop of some comings loses more cars for each tick than a fraction.

    The lead of a state is the most that a way to it loses beyond the fraction. Just if a loop loses
    more, leads grow for ever, beyond all that ways without a loop may lose: these are shorter than
    the number of states, and at most two cars are lost in each tick.
    """
    above, below = fraction
    leads = {first_state(): 0}
    waiting = collections.deque(leads)
    while waiting:
        state = waiting.popleft()
        for coming in comings:
            behind, _, _, lost = play_tick(crossing, rule, state, coming)
            lead = leads[state] + below * lost - above
            if lead > leads.get(cut(behind), lead - 1):
                leads[cut(behind)] = lead
                waiting.append(cut(behind))
        if leads[state] > 2 * below * len(leads):
            return False
    return True


def plays_of_loop(crossing, rule, endless, times):
    """Return a list of the tuples (lights, lines, passed, lost) of the plays of a loop."""
    row, loop = endless
    lights, lines, counts = play(crossing, rule, row + loop * times)
    plays = []
    for at in range(len(row), len(lights), len(loop)):
        ticks = slice(at, at + len(loop))
        passed, lost = [sum(numbers) for numbers in zip(*counts[ticks])]
        plays.append((lights[ticks], lines[ticks], passed, lost))
    return plays


def is_endless(crossing, rule, endless, times):
    """Return whether the lights and losses of the plays of a loop are the same so many times."""
    plays = plays_of_loop(crossing, rule, endless, times)
    return all((lights, lost) == (plays[0][0], plays[0][3]) for lights, _, _, lost in plays)


class Plans:
    """Plans at a crossing: hidden is a tuple of the tuples (rule, state) that are possible."""

    def __init__(self, crossing):
        self.crossing = crossing
        self.known = {}

    def is_found(self, hidden):
        if hidden not in self.known:
            row, places = search(self.crossing, hidden, range(4))
            # What is not parted here is not parted anywhere that it may come to.
            self.known.update(dict.fromkeys(places if row is None else [hidden], row is None))
        return self.known[hidden]

    def is_enough(self, hidden, ticks):
        if self.is_found(hidden):
            return True
        if (hidden, ticks) not in self.known:
            choices = [coming for coming in range(4) if self.is_good(hidden, ticks, coming)]
            self.known[hidden, ticks] = choices != []
        return self.known[hidden, ticks]

    def is_good(self, hidden, ticks, coming):
        """Return whether so many ticks, of which coming begins the first, are enough."""
        if ticks == 0:
            return False
        groups = groups_behind(self.crossing, hidden, coming)
        return all(self.is_enough(group, ticks - 1) for group in groups)

    def fewest(self, hidden):
        return next(ticks for ticks in itertools.count() if self.is_enough(hidden, ticks))

    def best(self, hidden):
        """Return the least coming with which plans with the fewest ticks begin, or None."""
        ticks = self.fewest(hidden)
        good = [coming for coming in range(4) if self.is_good(hidden, ticks, coming)]
        return None if self.is_found(hidden) else good[0]
