"""A hidden rule that is found by chosen comings.

A point of the search is a tuple (state, rules) of the state in which the crossing is and the rules
that are still possible. Rules that have shown the same lights behind the same comings are in the
same state, so one state stands for all of them.
"""

from lightrules.crossings import MOST_TICKS, check_comings, check_crossing, check_lights, check_rules
from lightrules.errors import InvalidComings, NoRule
from lightrules.ticks import first_state, lights_along, limits_of, step


def fewest_ticks(crossing, rules):
    """Return the least number of ticks with which the hidden one of the rules is surely found."""
    check_crossing(crossing)
    check_rules(rules)
    return _best_plan(crossing, (first_state(), rules))[0]


def best_coming(crossing, rules, comings, lights):
    """Return the least coming that begins a plan with the fewest further ticks, or None."""
    check_crossing(crossing)
    check_rules(rules)
    check_comings(comings)
    if len(comings) == MOST_TICKS:
        raise InvalidComings("there is no further tick behind 40 comings")
    check_lights(lights)
    possible = [rule for rule in rules if lights_along(crossing, rule, comings) == lights]
    if len(possible) == 0:
        raise NoRule("no rule that is told shows these lights")
    return _best_plan(crossing, _point_behind(crossing, possible, comings))[1]


def _point_behind(crossing, possible, comings):
    """Return the point behind comings, along which the possible rules show the same lights."""
    limits = limits_of(possible)
    state = first_state()
    for coming in comings:
        state = step(crossing, limits, possible[0], state, coming)[0]
    return state, tuple(possible)


def _best_plan(crossing, start):
    """Return the tuple (ticks, coming) of the fewest ticks from a point, and the least first coming.

    The coming is None if the rule is found at this point.
    """
    moves = _moves_from(crossing, start)
    parting = _parting_points(moves)
    if start not in parting:
        return 0, None
    # Behind each round, those points are done from which so many ticks are surely enough.
    done = {point: True for point in moves if point not in parting}
    ticks = 1
    while _sure_coming(done, moves[start]) is None:
        newly = [point for point in parting if _sure_coming(done, moves[point]) is not None]
        for point in newly:
            done[point] = True
        ticks += 1
    return ticks, _sure_coming(done, moves[start])


def _sure_coming(done, choices):
    """Return the least coming behind which all points that can follow are done, or None."""
    for coming, points in enumerate(choices):
        if all([point in done for point in points]):
            return coming
    return None


def _parting_points(moves):
    """Return the points from which some comings part the rules, as the keys of a dict."""
    parting = {}
    for point, choices in moves.items():
        if any([len(points) > 1 for points in choices]):
            parting[point] = True
    many = 0
    while many < len(parting):
        many = len(parting)
        for point, choices in moves.items():
            if any([follower in parting for points in choices for follower in points]):
                parting[point] = True
    return parting


def _moves_from(crossing, start):
    """Return a dict of the choices at all points that can follow a point, itself included."""
    limits = limits_of(start[1])
    moves = {}
    layer = [start]
    while len(layer) > 0:
        following = []
        for point in layer:
            if point not in moves:
                moves[point] = _choices(crossing, limits, point)
                for points in moves[point]:
                    following.extend(points)
        layer = following
    return moves


def _choices(crossing, limits, point):
    """Return the list of the lists of points that can follow each of the comings 0 to 3.

    There is nothing to choose if only one rule is possible: the rule is found.
    """
    if len(point[1]) == 1:
        return []
    return [_points_behind(crossing, limits, point, coming) for coming in range(4)]


def _points_behind(crossing, limits, point, coming):
    """Return the list of the points behind a coming, one for each light that can be seen."""
    state, rules = point
    points = {}
    for rule in rules:
        behind, light = step(crossing, limits, rule, state, coming)
        same = points[light][1] if light in points else ()
        points[light] = (behind, same + (rule,))
    return list(points.values())
