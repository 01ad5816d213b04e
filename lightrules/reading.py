"""Rules read from their lights, with the comings known or not."""

from lightrules.crossings import check_comings, check_crossing, check_lights, check_rule, family
from lightrules.ticks import first_state, lights_along, limits_of, step


def could_be(crossing, comings, lights):
    """Return the ascending list of the rules of the family that show lights along comings."""
    check_crossing(crossing)
    check_comings(comings)
    check_lights(lights)
    return [rule for rule in family() if lights_along(crossing, rule, comings) == lights]


def could_show(crossing, lights):
    """Return the ascending list of the rules of the family that show lights along some comings."""
    check_crossing(crossing)
    check_lights(lights)
    return [rule for rule in family() if count_comings(crossing, rule, lights) > 0]


def count_comings(crossing, rule, lights):
    """Return the number of rows of comings along which a rule shows lights."""
    check_crossing(crossing)
    check_rule(rule)
    check_lights(lights)
    limits = limits_of([rule])
    counts = {first_state(): 1}
    for light in lights:
        following = {}
        for state, many in counts.items():
            for _, behind in _moves(crossing, limits, rule, state, light):
                following[behind] = following.get(behind, 0) + many
        counts = following
    return sum(counts.values())


def first_comings(crossing, rule, lights):
    """Return the first of the rows of comings along which a rule shows lights, or None."""
    check_crossing(crossing)
    check_rule(rule)
    check_lights(lights)
    limits = limits_of([rule])
    # The rows of one layer are equally long, so the first row to a state goes on as the first rows
    # to the states behind it do, and no other row to that state need be kept.
    layer = {first_state(): []}
    for light in lights:
        following = {}
        for state, row in layer.items():
            for coming, behind in _moves(crossing, limits, rule, state, light):
                longer = row + [coming]
                following[behind] = min(following.get(behind, longer), longer)
        layer = following
    return min(layer.values(), default=None)


def _moves(crossing, limits, rule, state, light):
    """Return the list of the tuples (coming, state behind it) with which a rule shows a light."""
    moves = []
    for coming in range(4):
        behind, shown = step(crossing, limits, rule, state, coming)
        if shown == light:
            moves.append((coming, behind))
    return moves
