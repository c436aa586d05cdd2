"""The middle, in which a spindle is cut where the last place is 0."""

from spindleway.between import crossings
from spindleway.errors import Misfit, TooMany
from spindleway.solids import MOST_POINTS, Solid
from spindleway.spindles import check_spindle

LEAST_CUT = 3
MOST_CUT = 4


def middle(spindle):
    """The Solid of the sums of both points of each crossing, without the last place."""
    check_spindle(spindle, "spindle")
    if not LEAST_CUT <= spindle.dimension <= MOST_CUT:
        raise Misfit("dimension")
    pairs = crossings(spindle)
    most = MOST_POINTS[spindle.dimension - 1]
    if len(pairs) > most:
        raise TooMany("points", most)
    return Solid([_sum_of(spindle.points[upper], spindle.points[lower]) for upper, lower in pairs])


def _sum_of(one, other):
    """The sum of two points, without the last place."""
    return [number + more for number, more in zip(one[:-1], other[:-1])]
