"""The texts of comings, of lights and of rules."""

from lightrules.crossings import MOST_TICKS, check_comings, check_lights, check_rule, is_rule
from lightrules.errors import ParseError

# Each light and each number has just one text, so looking texts up is surer than int() is: that one
# also takes blanks, leading zeros and the figures of other scripts.
_LIGHTS = {"0": 0, "1": 1, "-": None}
_NUMBERS = {"1": 1, "2": 2, "3": 3, "4": 4}


def format_comings(comings):
    """Return the text of comings."""
    check_comings(comings)
    return "".join([str(coming) for coming in comings])


def parse_comings(text):
    """Return the comings that have a text."""
    _check_signs(text, "0123")
    return [int(sign) for sign in text]


def format_lights(lights):
    """Return the text of lights."""
    check_lights(lights)
    return "".join(["-" if light is None else str(light) for light in lights])


def parse_lights(text):
    """Return the lights that have a text."""
    _check_signs(text, "01-")
    return [_LIGHTS[sign] for sign in text]


def format_rule(rule):
    """Return the text of a rule."""
    check_rule(rule)
    return " ".join([str(part) for part in rule])


def parse_rule(text):
    """Return the rule that has a text."""
    _check_string(text)
    word, *figures = text.split(" ")
    numbers = [_NUMBERS.get(figure) for figure in figures]
    rule = (word, *numbers)
    if not is_rule(rule):
        raise ParseError("no rule has this text")
    return rule


def _check_string(text):
    """Raise ParseError if text is not a string."""
    if not isinstance(text, str):
        raise ParseError("a text is a string")


def _check_signs(text, known):
    """Raise ParseError if text is not a string of at most 40 known signs."""
    _check_string(text)
    if len(text) > MOST_TICKS:
        raise ParseError("a text has at most 40 signs, one for each tick")
    if not all([sign in known for sign in text]):
        raise ParseError("a sign of the text stands for nothing")
