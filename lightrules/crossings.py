"""What is a crossing, a rule, or comings; the family of rules; the checks of arguments."""

from lightrules.errors import InvalidComing, InvalidComings, InvalidCount, InvalidCrossing, InvalidKind
from lightrules.errors import InvalidLights, InvalidRoad, InvalidRule, InvalidRules

# A row of comings, and so that of their lights, has at most so many ticks.
MOST_TICKS = 40

_MOST_RULES = 3

# Rows of more ticks are too many to list all of them.
_MOST_LISTED = 5

_NUMBERS_BEHIND = {"asked": 1, "clock": 2, "due": 1, "empty": 1, "gap": 2, "longer": 1}

_FAMILY = (
    ("asked", 1), ("asked", 2), ("asked", 3),
    ("clock", 1, 1), ("clock", 1, 2), ("clock", 1, 3),
    ("clock", 2, 1), ("clock", 2, 2), ("clock", 2, 3),
    ("clock", 3, 1), ("clock", 3, 2), ("clock", 3, 3),
    ("due", 1), ("due", 2), ("due", 3),
    ("empty", 2), ("empty", 3), ("empty", 4),
    ("gap", 1, 3), ("gap", 1, 4), ("gap", 2, 3), ("gap", 2, 4),
    ("longer", 1), ("longer", 2), ("longer", 3),
)


def is_number(candidate, least, most):
    """Return whether candidate is an integer from least to most."""
    # Python counts True and False among the integers, the document does not.
    if not isinstance(candidate, int) or isinstance(candidate, bool):
        return False
    return least <= candidate <= most


def is_crossing(candidate):
    """Return whether candidate is a crossing: a tuple (room, pause)."""
    if not isinstance(candidate, tuple) or len(candidate) != 2:
        return False
    room, pause = candidate
    return is_number(room, 1, 3) and is_number(pause, 0, 2)


def is_rule(candidate):
    """Return whether candidate is a rule: a tuple of a word and its numbers."""
    if not isinstance(candidate, tuple) or len(candidate) == 0:
        return False
    word, *numbers = candidate
    # A list cannot be looked up in the table, so the word must be a string first.
    if not isinstance(word, str) or word not in _NUMBERS_BEHIND:
        return False
    if len(numbers) != _NUMBERS_BEHIND[word]:
        return False
    return all([is_number(number, 1, 4) for number in numbers])


def are_comings(candidate):
    """Return whether candidate is a list of at most 40 comings."""
    if not isinstance(candidate, list) or len(candidate) > MOST_TICKS:
        return False
    return all([is_number(coming, 0, 3) for coming in candidate])


def family():
    """Return the ascending list of the rules of the family."""
    return list(_FAMILY)


def comings_of(kind):
    """Return the ascending list of the comings of a kind."""
    return [coming for coming in range(4) if coming | kind == kind]


def check_crossing(crossing):
    """Raise InvalidCrossing if crossing is not a crossing."""
    if not is_crossing(crossing):
        raise InvalidCrossing("a crossing is a tuple (room, pause), room from 1 to 3, pause from 0 to 2")


def check_rule(rule):
    """Raise InvalidRule if rule is not a rule."""
    if not is_rule(rule):
        raise InvalidRule("a rule is a tuple of a word and its numbers from 1 to 4")


def check_comings(comings):
    """Raise InvalidComings if comings are not comings."""
    if not are_comings(comings):
        raise InvalidComings("comings are a list of at most 40 integers from 0 to 3")


def check_lights(lights):
    """Raise InvalidLights if lights are not lights."""
    if not _are_lights(lights):
        raise InvalidLights("lights are a list of at most 40 values, each 0, 1 or None")


def check_kind(kind):
    """Raise InvalidKind if kind is not a kind of comings."""
    if not is_number(kind, 0, 3):
        raise InvalidKind("a kind is an integer from 0 to 3")


def check_coming(coming):
    """Raise InvalidComing if coming is not a coming."""
    if not is_number(coming, 0, 3):
        raise InvalidComing("a coming is an integer from 0 to 3")


def check_road(road):
    """Raise InvalidRoad if road is not a road."""
    if not is_number(road, 0, 1):
        raise InvalidRoad("a road is 0 or 1")


def check_count(many):
    """Raise InvalidCount if many is not a number of ticks of which all rows may be listed."""
    if not is_number(many, 0, _MOST_LISTED):
        raise InvalidCount("all rows are listed for an integer from 0 to 5 only")


def check_rules(rules):
    """Raise InvalidRules if rules are not told as they should be."""
    if not _are_rules(rules):
        raise InvalidRules("rules are told as an ascending tuple of 1 to 3 rules")


def _are_lights(candidate):
    """Return whether candidate is a list of at most 40 lights."""
    if not isinstance(candidate, list) or len(candidate) > MOST_TICKS:
        return False
    return all([light is None or is_number(light, 0, 1) for light in candidate])


def _are_rules(candidate):
    """Return whether candidate is an ascending tuple of 1 to 3 rules."""
    if not isinstance(candidate, tuple) or not 1 <= len(candidate) <= _MOST_RULES:
        return False
    # Only rules can be compared: other values may have no order.
    if not all([is_rule(rule) for rule in candidate]):
        return False
    return all([lower < upper for lower, upper in zip(candidate, candidate[1:])])
