"""What happens in the ticks: their lights, the lines at their ends, the cars that pass and are lost.

A state is what later ticks hang on. It is a tuple (road, unasked, age, rest, wait, lines):
- road is the road that is green or, while a pause is running, the one that it leads to;
- unasked is the number of next ticks in which the rule is not asked: those of a running pause
  and, as the last one, the first tick behind it;
- age, rest and wait are those of this road ahead of the next tick;
- lines is the tuple of the numbers of cars in both lines.
"""

from lightrules.crossings import check_comings, check_crossing, check_rule


def first_state():
    """Return the state ahead of the first tick."""
    return 0, 0, 0, 0, 0, (0, 0)


def play_tick(crossing, rule, state, coming):
    """Play a tick: return the state behind it, its light, and how many cars pass and are lost."""
    room, pause = crossing
    road, unasked, age, rest, wait, lines = state
    lines, lost = _join(room, lines, coming)
    if unasked == 0 and _changes(rule, road, age, rest, wait, lines):
        # This tick counts, too: without a pause it is the one in which the other road is green.
        road, unasked, age, rest, wait = 1 - road, pause + 1, 0, 0, 0
    unasked = max(0, unasked - 1)
    light = road if unasked == 0 else None
    lines, passed = _leave(lines, light)
    if light is not None:
        age += 1
        rest = 0 if passed > 0 else rest + 1
    # The other road is not green in this tick, whether a pause is running or not.
    wait = wait + 1 if lines[1 - road] > 0 else 0
    return (road, unasked, age, rest, wait, lines), light, passed, lost


def _join(room, lines, coming):
    """Return the lines behind the coming of cars, and how many cars are lost."""
    wanted = (lines[0] + (coming & 1), lines[1] + (coming >> 1))
    joined = (min(room, wanted[0]), min(room, wanted[1]))
    return joined, sum(wanted) - sum(joined)


def _leave(lines, light):
    """Return the lines behind the passing of a car, and how many cars pass."""
    if light is None or lines[light] == 0:
        return lines, 0
    if light == 0:
        return (lines[0] - 1, lines[1]), 1
    return (lines[0], lines[1] - 1), 1


def _changes(rule, road, age, rest, wait, lines):
    """Return whether a rule changes, with the lines behind the comings."""
    word = rule[0]
    own, other = lines[road], lines[1 - road]
    if word == "clock":
        return age >= rule[1 + road]
    if word == "asked":
        return age >= rule[1] and other > 0
    if word == "empty":
        return other > 0 and (own == 0 or age >= rule[1])
    if word == "longer":
        return age >= rule[1] and other > own
    if word == "gap":
        return other > 0 and (rest >= rule[1] or age >= rule[2])
    return wait >= rule[1]


def limits_of(rules):
    """Return the greatest numbers with which some rules compare the age, the rest and the wait."""
    compared = [_compared(rule) for rule in rules]
    return tuple([max(numbers) for numbers in zip(*compared)])


def _compared(rule):
    """Return the numbers with which a rule compares the age, the rest and the wait, 0 for none."""
    word, *numbers = rule
    if word == "gap":
        return numbers[1], numbers[0], 0
    if word == "due":
        return 0, 0, numbers[0]
    return max(numbers), 0, 0


def trim(limits, state):
    """Return a state with its age, rest and wait trimmed to the limits."""
    road, unasked, age, rest, wait, lines = state
    most_age, most_rest, most_wait = limits
    # Beyond the limits no rule tells the numbers apart; as they can grow for ever, a search through
    # all states would not end without the trim.
    return road, unasked, min(age, most_age), min(rest, most_rest), min(wait, most_wait), lines


def step(crossing, limits, rule, state, coming):
    """Play a tick: return the state behind it, trimmed to the limits, and its light."""
    behind, light = play_tick(crossing, rule, state, coming)[:2]
    return trim(limits, behind), light


def _ticks_along(crossing, rule, comings):
    """Return the list of the tuples (light, lines, (passed, lost)) of all ticks."""
    check_crossing(crossing)
    check_rule(rule)
    check_comings(comings)
    state = first_state()
    ticks = []
    for coming in comings:
        state, light, passed, lost = play_tick(crossing, rule, state, coming)
        lines = state[-1]
        ticks.append((light, lines, (passed, lost)))
    return ticks


def lights_along(crossing, rule, comings):
    """Return the list of the lights of all ticks."""
    return [tick[0] for tick in _ticks_along(crossing, rule, comings)]


def lines_along(crossing, rule, comings):
    """Return the list of the tuples of the numbers of cars in both lines at the ends of the ticks."""
    return [tick[1] for tick in _ticks_along(crossing, rule, comings)]


def counts_along(crossing, rule, comings):
    """Return the list of the tuples (passed, lost) of the numbers of cars in the ticks."""
    return [tick[2] for tick in _ticks_along(crossing, rule, comings)]
