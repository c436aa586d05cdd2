"""Whether any value is a right paper about the length of the spindle of the 48 points."""

from spindleway.longtables import BOTTOM, NEIGHBOURS, TOP
from spindleway.steps import Apart
from spindleway.walks import tells_apart


def shows_long(value):
    """Whether a value is an Apart for the sides of the 48 points, from top to bottom."""
    return type(value) is Apart and tells_apart(NEIGHBOURS, TOP, BOTTOM, value.walk, value.numbers)
