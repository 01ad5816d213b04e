"""The errors of the package, one class for each kind of failure."""


class LightError(ValueError):
    """The base of all errors of the package."""


class InvalidCrossing(LightError):
    """An argument is not a crossing."""


class InvalidRule(LightError):
    """An argument is not a rule."""


class InvalidRules(LightError):
    """An argument is not an ascending tuple of 1 to 3 rules."""


class InvalidComing(LightError):
    """An argument is not a coming."""


class InvalidComings(LightError):
    """An argument is not a list of comings."""


class InvalidLights(LightError):
    """An argument is not a list of lights."""


class InvalidKind(LightError):
    """An argument is not a kind of comings."""


class InvalidRoad(LightError):
    """An argument is not a road."""


class InvalidCount(LightError):
    """An argument is not a number of ticks that may be listed."""


class NoRule(LightError):
    """No rule of those that are told shows the lights."""


class TooLong(LightError):
    """A desk has as many ticks as it may have."""


class NothingToUndo(LightError):
    """There is no tick to undo or to redo."""


class ParseError(LightError):
    """There is nothing that has the text."""
