"""A crossing that is played tick by tick."""

from lightrules.crossings import MOST_TICKS, check_coming, check_crossing, check_rule
from lightrules.errors import NothingToUndo, TooLong
from lightrules.ticks import counts_along, lights_along, lines_along


class Desk:
    """A crossing with the ticks that were played, and those that were taken back."""

    def __init__(self, crossing, rule):
        check_crossing(crossing)
        check_rule(rule)
        self._crossing = crossing
        self._rule = rule
        # All else follows from the comings, so nothing else has to be taken back.
        self._comings = []
        # The comings that were taken back; the last of them is the next one to be played again.
        self._undone = []

    def __eq__(self, other):
        return (isinstance(other, Desk) and self._crossing == other._crossing
                and self._rule == other._rule and self._comings == other._comings)

    def __len__(self):
        return len(self._comings)

    def tick(self, coming):
        """Play a tick and return its light."""
        check_coming(coming)
        if len(self._comings) == MOST_TICKS:
            raise TooLong("a desk has at most 40 ticks")
        self._comings.append(coming)
        self._undone.clear()
        return self.lights()[-1]

    def comings(self):
        """Return the list of the comings of the ticks that are not undone."""
        return list(self._comings)

    def lights(self):
        """Return the list of the lights of the ticks that are not undone."""
        return lights_along(self._crossing, self._rule, self._comings)

    def lines(self):
        """Return the tuple of the numbers of cars in both lines."""
        if len(self._comings) == 0:
            return 0, 0
        return lines_along(self._crossing, self._rule, self._comings)[-1]

    def totals(self):
        """Return the tuple (passed, lost) of the numbers of cars in all ticks."""
        counts = counts_along(self._crossing, self._rule, self._comings)
        return sum([passed for passed, _ in counts]), sum([lost for _, lost in counts])

    def undo(self):
        """Take the last tick back and return its coming."""
        if len(self._comings) == 0:
            raise NothingToUndo("there is no tick to take back")
        coming = self._comings.pop()
        self._undone.append(coming)
        return coming

    def redo(self):
        """Play the tick again that was taken back last, and return its coming."""
        if len(self._undone) == 0:
            raise NothingToUndo("there is no tick to play again")
        coming = self._undone.pop()
        self._comings.append(coming)
        return coming

    def copy(self):
        """Return an independent desk in the same state, with the same history."""
        desk = Desk(self._crossing, self._rule)
        desk._comings = list(self._comings)
        desk._undone = list(self._undone)
        return desk
