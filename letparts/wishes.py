"""Wishes for rules: which there are, and which rule grants them."""

from letparts.alike import alike
from letparts.checks import is_from_to, is_integer, is_row
from letparts.counts import count
from letparts.limits import MOST_LED
from letparts.rules import lets, rule_of_text

_ABOUT_ROWS = ("lets", "bars")
_ABOUT_COUNTS = ("counts", "least", "most")
_ABOUT_RULES = ("like",)


def is_wish(value):
    """Whether a value is a wish for a rule."""
    if not isinstance(value, tuple) or not value:
        return False
    word = value[0]
    if len(value) == 2:
        return word in _ABOUT_ROWS and is_row(value[1]) or word in _ABOUT_RULES and rule_of_text(value[1]) is not None
    if len(value) == 3:
        number, many = value[1:]
        return word in _ABOUT_COUNTS and is_from_to(number, 0, MOST_LED) and is_integer(many) and many >= 0
    return False


def is_granted(rule, wish):
    """Whether a rule is as a wish for it says."""
    word, told = wish[:2]
    match word:
        case "lets":
            return lets(rule, told)
        case "bars":
            return not lets(rule, told)
        case "like":
            return alike(rule, rule_of_text(told))
        case "counts":
            return count(rule, told) == wish[2]
        case "least":
            return count(rule, told) >= wish[2]
        case _:
            return count(rule, told) <= wish[2]
