"""Solids turned about a point inside: their sides become corners."""

from spindleway.algebra import multiple_of, product_of
from spindleway.checks import is_point, is_within
from spindleway.errors import BadNumber, Misfit, TooMany
from spindleway.solids import MOST_POINTS, Solid, check_solid


def turned(solid, numbers, by=1):
    """The Solid turned about the point of some numbers over an integer, its points in the order of the sides."""
    check_solid(solid)
    if not is_point(numbers, solid.dimension):
        raise BadNumber("numbers")
    if not is_within(by, 1, None):
        raise BadNumber("by")
    lacks = [number * by - product_of(row, numbers) for row, number in solid.planes]
    if min(lacks) <= 0:
        raise Misfit("point")
    most = MOST_POINTS[solid.dimension]
    if len(lacks) > most:
        raise TooMany("points", most)
    # The rows have no common divisor: just the multiples of what is lacked make integers of them.
    times = multiple_of(lacks)
    return Solid([
        [number * (times // lack) for number in row] for (row, _), lack in zip(solid.planes, lacks)
    ])
