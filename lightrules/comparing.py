"""Two rules: the comings that part them, and the rules that no comings part."""

from lightrules.crossings import check_crossing, check_kind, check_rule, comings_of, family
from lightrules.ticks import first_state, limits_of, step


def parting_comings(crossing, one, other, kind):
    """Return the first of the shortest rows of comings of a kind that part two rules, or None."""
    check_crossing(crossing)
    check_rule(one)
    check_rule(other)
    check_kind(kind)
    return _first_parting(crossing, one, other, comings_of(kind))


def alike_lists(crossing, kind):
    """Return the list of the lists of the rules of the family that no comings of a kind part."""
    check_crossing(crossing)
    check_kind(kind)
    comings = comings_of(kind)
    lists = []
    for rule in family():
        alike = _list_of(crossing, lists, rule, comings)
        if alike is None:
            lists.append([rule])
        else:
            alike.append(rule)
    return lists


def _list_of(crossing, lists, rule, comings):
    """Return the list whose rules are not parted from a rule, or None."""
    for alike in lists:
        if _first_parting(crossing, alike[0], rule, comings) is None:
            return alike
    return None


def _first_parting(crossing, one, other, comings):
    """Return the first of the shortest rows of some comings that part two rules, or None."""
    limits = limits_of([one, other])
    # Two rules that have shown the same lights behind the same comings are in the same state, so
    # one state stands for both. A state is kept with the first row that leads to it.
    layer = {first_state(): []}
    seen = {first_state(): True}
    while len(layer) > 0:
        following = {}
        for state, row in layer.items():
            for coming in comings:
                behind, light = step(crossing, limits, one, state, coming)
                if light != step(crossing, limits, other, state, coming)[1]:
                    return row + [coming]
                if behind not in seen:
                    seen[behind] = True
                    following[behind] = row + [coming]
        layer = following
    return None
