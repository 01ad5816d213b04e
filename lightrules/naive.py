"""Answers that are found by listing all rows of comings."""

from lightrules.crossings import check_count, check_crossing, check_kind, check_rule, comings_of
from lightrules.ticks import counts_along, lights_along

_ANY_KIND = 3


def naive_parting(crossing, one, other, kind, many):
    """Return the first of the shortest rows of comings of a kind that part two rules, or None.

    Only the rows of at most so many comings are listed.
    """
    check_crossing(crossing)
    check_rule(one)
    check_rule(other)
    check_kind(kind)
    check_count(many)
    rows = [[]]
    for _ in range(many):
        rows = _longer_rows(rows, comings_of(kind))
        for row in rows:
            if lights_along(crossing, one, row)[-1] != lights_along(crossing, other, row)[-1]:
                return row
    return None


def naive_loss(crossing, rule, many):
    """Return the greatest number of cars that are lost in so many ticks."""
    check_crossing(crossing)
    check_rule(rule)
    check_count(many)
    rows = [[]]
    for _ in range(many):
        rows = _longer_rows(rows, comings_of(_ANY_KIND))
    return max([_lost_along(crossing, rule, row) for row in rows])


def _longer_rows(rows, comings):
    """Return the list of the rows with each of the comings behind them, in their order."""
    return [row + [coming] for row in rows for coming in comings]


def _lost_along(crossing, rule, row):
    """Return the number of cars that are lost along a row of comings."""
    return sum([lost for _, lost in counts_along(crossing, rule, row)])
