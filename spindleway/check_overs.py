"""Whether any values are right papers about what lies over."""

from spindleway.checks import is_integer, is_within
from spindleway.overs import Leaps, Over, Strays, check_pair, first_holders, leads_well, lies_over


def shows_over(first, second, value):
    """Whether a value is a right Over, a Strays of any side that none holds, or the one right Leaps."""
    check_pair(first, second)
    if type(value) is Over:
        return leads_well(first, second, value.sides)
    if type(value) is Strays:
        return _is_stray(first, second, value.side)
    if type(value) is Leaps:
        return is_integer(value.one) and is_integer(value.other) and value == lies_over(first, second)
    return False


def _is_stray(first, second, side):
    if not is_within(side, 0, len(second.solid.sides) - 1):
        return False
    return first_holders(first, second)[side] is None
