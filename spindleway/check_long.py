"""Whether any value is a right paper about the length of the spindle of the 48 points."""

from spindleway.checks import are_integers
from spindleway.fortyeight import Long
from spindleway.steps import Apart
from spindleway.walks import tells_apart


def shows_long(value):
    """Whether a value is an Apart for the sides of the 48 points, from top to bottom."""
    # The sides are worked out only for what could be right.
    if type(value) is not Apart or not are_integers(value.walk) or not are_integers(value.numbers):
        return False
    long = Long()
    return tells_apart(long.neighbours, long.top, long.bottom, value.walk, value.numbers)
