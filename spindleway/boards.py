"""Boards, solids of which each point has noughts and ones alone, and short paths over their points."""

from spindleway.corners import check_point, lanes_over
from spindleway.errors import Misfit
from spindleway.papers import Paper
from spindleway.solids import check_solid


class Short(Paper):
    """A path each point of which agrees with the last one wherever the point ahead of it does."""

    def __init__(self, points):
        super().__init__("short", points)
        self.points = self.parts[0]


def is_board(solid):
    """Whether each point of a solid has noughts and ones alone."""
    check_solid(solid)
    return all([number in (0, 1) for point in solid.points for number in point])


def agreeing(solid, one, other):
    """The lot of the places at which two points have the same integer."""
    _check_pair(solid, one, other)
    return _places_alike(solid.points[one], solid.points[other])


def _check_pair(solid, one, other):
    check_solid(solid)
    check_point(solid, one, "one")
    check_point(solid, other, "other")


def _places_alike(one, other):
    return tuple([place for place in range(len(one)) if one[place] == other[place]])


def check_board(solid, one, other):
    """Refuse what is no board with two points, perhaps the same."""
    _check_pair(solid, one, other)
    if not is_board(solid):
        raise Misfit("board")


def keeps(points, ahead, at, last):
    """Whether a point agrees with the last one wherever the point ahead of it does."""
    return all([points[at][place] == points[last][place] for place in _places_alike(points[ahead], points[last])])


def short_path(solid, one, other):
    """A Short of two points of a board, perhaps the same."""
    check_board(solid, one, other)
    lanes = lanes_over(solid)
    points = [one]
    while points[-1] != other:
        # Each such point will do: more of its places agree, and there is always one.
        points.append([at for at in lanes[points[-1]] if keeps(solid.points, points[-1], at, other)][0])
    return Short(points)
