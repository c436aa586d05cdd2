"""Whether any values are right papers about points, paths over them, and sums."""

from spindleway.algebra import product_of
from spindleway.boards import Short, check_board, keeps
from spindleway.checks import is_list, is_point, is_within
from spindleway.corners import Path, check_point, lanes_over
from spindleway.solids import check_solid
from spindleway.sums import Best, check_row
from spindleway.walks import is_walk, tells_apart


def shows_path(solid, one, other, value):
    """Whether a value is a Path of any path and any numbering of the points that tell the same."""
    check_solid(solid)
    check_point(solid, one, "one")
    check_point(solid, other, "other")
    return type(value) is Path and tells_apart(lanes_over(solid), one, other, value.points, value.numbers)


def shows_short(solid, one, other, value):
    """Whether a value is a Short of any short path."""
    check_board(solid, one, other)
    if type(value) is not Short or not is_walk(lanes_over(solid), value.points, one, other):
        return False
    points = value.points
    return all([keeps(solid.points, points[at - 1], points[at], other) for at in range(1, len(points))])


def shows_best(solid, row, start, value):
    """Whether a value is a Best of a row, from a point on."""
    check_row(solid, row, start, "start")
    if type(value) is not Best or not _is_growing(solid, row, start, value.points):
        return False
    return _are_weights(solid, value.weights, value.points[-1]) and _is_sum(solid, row, value)


def _is_growing(solid, row, start, points):
    """Whether any value is a path from a point on, on which the worth grows at each step."""
    if not is_list(points, 1, None) or not is_walk(lanes_over(solid), points, start, points[-1]):
        return False
    worths = [product_of(row, solid.points[point]) for point in points]
    return all([worths[at - 1] < worths[at] for at in range(1, len(worths))])


def _are_weights(solid, weights, last):
    """Whether any value has an integer from 0 on for each side, above 0 only where a side has the last point."""
    if not is_point(weights, len(solid.sides)):
        return False
    return all([weight == 0 or (weight > 0 and last in side) for weight, side in zip(weights, solid.sides)])


def _is_sum(solid, row, value):
    """Whether the rows of the planes, each as often as its weight tells, add up to by times the row."""
    if not is_within(value.by, 1, None):
        return False
    rows = [plane[0] for plane in solid.planes]
    sums = [sum([weight * each[place] for weight, each in zip(value.weights, rows)]) for place in range(len(row))]
    return sums == [value.by * number for number in row]
