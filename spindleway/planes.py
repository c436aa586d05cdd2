"""The rank of rows, the dimension that points span, and the plane through points."""

from spindleway.algebra import lifted_point, narrowed, rank_among, span_among, unit_rows
from spindleway.checks import are_points, is_list
from spindleway.errors import BadNumber, BadPoint, Misfit

MOST_POINTS = 16
MOST_WIDE = 8
MOST_DIMENSION = 6


def rank_of(rows):
    """The rank of 1 to 16 rows of as many integers, 1 to 8."""
    if not is_list(rows, 1, MOST_POINTS) or not are_points(rows, 1, MOST_WIDE):
        raise BadNumber("rows")
    return rank_among(rows, len(rows[0]))


def span_of(points):
    """The dimension that at most 16 points of as many integers, 1 to 8, span; -1 for no points."""
    if not is_list(points, 0, MOST_POINTS):
        raise BadPoint("points")
    if len(points) == 0:
        return -1
    if not are_points(points, 1, MOST_WIDE):
        raise BadPoint("points")
    return span_among(points, len(points[0]))


def plane_through(points):
    """The plane (row, number) that holds 2 to 6 points, of as many integers each as there are points.

    The first number of the row that is not 0 is above 0.
    """
    if not is_list(points, 2, MOST_DIMENSION) or not are_points(points, len(points), len(points)):
        raise BadPoint("points")
    held = unit_rows(len(points) + 1)
    for point in points:
        held = narrowed(held, lifted_point(point))
    if len(held) > 1:
        raise Misfit("span")
    return plane_of(held[0])


def plane_of(row):
    """The plane (row, number) of a row whose product with each of its points, a 1 behind, is 0."""
    first = [number for number in row[:-1] if number != 0][0]
    if first < 0:
        return tuple([-number for number in row[:-1]]), row[-1]
    return row[:-1], -row[-1]
