"""Cars that are lost in the long run, roads that wait for ever, and the flow of full roads.

All answers but that of full_flow are read from two dicts that tell what some comings can lead to:
- rows has the first of the shortest rows to each state, in the order of these rows;
- moves has for each state the tuples (coming, state behind it, light, lost) of the next tick.

There are finitely many states, so each endless row comes to a loop of states.
"""

from math import gcd

from lightrules.crossings import check_crossing, check_kind, check_road, check_rule, comings_of
from lightrules.ticks import first_state, limits_of, play_tick, trim

_CARS_ON_BOTH_ROADS = 3


def greatest_loss(crossing, rule, kind):
    """Return the greatest fraction of lost cars for each tick in the loops of comings of a kind."""
    _, moves = _explore_kind(crossing, rule, kind)
    return _greatest_fraction(_most_lost(moves))


def worst_row(crossing, rule, kind):
    """Return an endless row of comings of a kind with the greatest loss."""
    rows, moves = _explore_kind(crossing, rule, kind)
    return _endless_row(rows, _worst_moves(moves))


def first_loss(crossing, rule, kind):
    """Return the first of the shortest rows of comings of a kind that end with a loss, or None."""
    rows, moves = _explore_kind(crossing, rule, kind)
    for state, row in rows.items():
        for coming, _, _, lost in moves[state]:
            if lost > 0:
                return row + [coming]
    return None


def starving_row(crossing, rule, road):
    """Return an endless row in whose loop a road waits and is never green, or None."""
    check_crossing(crossing)
    check_rule(rule)
    check_road(road)
    rows, moves = _explore(crossing, rule, comings_of(_CARS_ON_BOTH_ROADS))
    return _endless_row(rows, _starving_moves(moves, road))


def full_flow(crossing, rule):
    """Return the fraction of cars that pass for each tick in the long run if both roads are full."""
    check_crossing(crossing)
    check_rule(rule)
    limits = limits_of([rule])
    state = first_state()
    ahead = {}
    counts = []
    while state not in ahead:
        ahead[state] = len(counts)
        behind, _, passed, _ = play_tick(crossing, rule, state, _CARS_ON_BOTH_ROADS)
        state = trim(limits, behind)
        counts.append(passed)
    # From the state that came again on, the same ticks follow for ever.
    loop = counts[ahead[state]:]
    return _reduced(sum(loop), len(loop))


def _reduced(above, below):
    """Return the fraction of two integers, below being positive."""
    divisor = gcd(above, below)
    return above // divisor, below // divisor


def _is_less(one, other):
    """Return whether a fraction is less than another one."""
    return one[0] * other[1] < other[0] * one[1]


def _explore_kind(crossing, rule, kind):
    """Return what _explore finds for the comings of a kind; raise an error of a wrong argument."""
    check_crossing(crossing)
    check_rule(rule)
    check_kind(kind)
    return _explore(crossing, rule, comings_of(kind))


def _explore(crossing, rule, comings):
    """Return the tuple (rows, moves) of all states that some comings lead to."""
    limits = limits_of([rule])
    rows = {first_state(): []}
    moves = {}
    layer = [first_state()]
    while len(layer) > 0:
        following = []
        for state in layer:
            moves[state] = _moves_from(crossing, limits, rule, state, comings)
            for coming, behind, _, _ in moves[state]:
                if behind not in rows:
                    rows[behind] = rows[state] + [coming]
                    following.append(behind)
        layer = following
    return rows, moves


def _moves_from(crossing, limits, rule, state, comings):
    """Return the list of the moves from a state, ascending by their comings."""
    moves = []
    for coming in comings:
        behind, light, _, lost = play_tick(crossing, rule, state, coming)
        moves.append((coming, trim(limits, behind), light, lost))
    return moves


def _most_lost(moves):
    """Return a list of dicts: the most cars lost on the way to each state, by the number of ticks.

    It goes up to as many ticks as there are states. A state is missing where no row of just so many
    comings leads to it.
    """
    layers = [{first_state(): 0}]
    for _ in range(len(moves)):
        following = {}
        for state, most in layers[-1].items():
            for _, behind, _, lost in moves[state]:
                following[behind] = max(following.get(behind, 0), most + lost)
        layers.append(following)
    return layers


def _greatest_fraction(layers):
    """Return the greatest fraction of lost cars for each tick among all loops."""
    # This is Karp's theorem on the greatest mean of a cycle, which wants all states to be within
    # reach of the first one, and as many ticks as there are states.
    fractions = [_least_fraction(layers, state) for state in layers[-1]]
    greatest = fractions[0]
    for fraction in fractions:
        if _is_less(greatest, fraction):
            greatest = fraction
    return greatest


def _least_fraction(layers, state):
    """Return the least fraction by which the most lost cars on the way to a state have grown."""
    end = len(layers) - 1
    fractions = [_reduced(layers[end][state] - layers[ticks][state], end - ticks)
                 for ticks in range(end) if state in layers[ticks]]
    least = fractions[0]
    for fraction in fractions:
        if _is_less(fraction, least):
            least = fraction
    return least


def _worst_moves(moves):
    """Return a dict of the tuples (coming, state behind it) of which all worst loops consist."""
    layers = _most_lost(moves)
    above, below = _greatest_fraction(layers)
    # The lead of a state is the most that a way to it loses beyond the greatest fraction. A loop
    # with that fraction comes back with the lead that it began with, so no move in it lags behind.
    leads = {}
    for ticks, layer in enumerate(layers):
        for state, lost in layer.items():
            lead = below * lost - above * ticks
            leads[state] = max(leads.get(state, lead), lead)
    worst = {}
    for state in moves:
        worst[state] = [(coming, behind) for coming, behind, _, lost in moves[state]
                        if leads[state] + below * lost - above == leads[behind]]
    return worst


def _starving_moves(moves, road):
    """Return a dict of the tuples (coming, state behind it) in whose ticks a road waits on."""
    starving = {}
    for state in moves:
        starving[state] = [(coming, behind) for coming, behind, light, _ in moves[state]
                           if light != road and behind[-1][road] > 0]
    return starving


def _endless_row(rows, moves):
    """Return an endless row with a shortest loop among some moves, or None."""
    found = None
    for state, row in rows.items():
        loop = _shortest_loop(moves, state)
        if loop is not None and (found is None or len(loop) < len(found[1])):
            found = (row, loop)
    return found


def _shortest_loop(moves, start):
    """Return a shortest list of comings with which some moves lead from a state to itself, or None."""
    layer = {start: []}
    seen = {}
    while len(layer) > 0:
        following = {}
        for state, row in layer.items():
            for coming, behind in moves[state]:
                if behind == start:
                    return row + [coming]
                if behind not in seen:
                    seen[behind] = True
                    following[behind] = row + [coming]
        layer = following
    return None
