"""Which points of a solid are beside one another, and paths over the points."""

from spindleway.bits import are_alone, bits_of
from spindleway.checks import is_within
from spindleway.errors import BadNumber
from spindleway.papers import Paper
from spindleway.solids import check_solid
from spindleway.walks import steps_over, traced_from, way_to


class Path(Paper):
    """A path from a point to another one, and a numbering that grows by as many as the path has steps."""

    def __init__(self, points, numbers):
        super().__init__("path", points, numbers)
        self.points = self.parts[0]
        self.numbers = self.parts[1]


def check_point(solid, value, part):
    """Refuse what is not the index of a point of a solid."""
    if not is_within(value, 0, len(solid.points) - 1):
        raise BadNumber(part)


def sides_by_point(solid):
    """For each point the bits of the numbers of the sides that have it."""
    return [
        bits_of([side for side in range(len(solid.sides)) if solid.bits[side] >> point & 1])
        for point in range(len(solid.points))
    ]


def _beside_among(having, point):
    """The indexes, ascending, of the points beside one; having tells the sides of each point, as bits."""
    found = []
    for other in range(len(having)):
        shared = having[point] & having[other]
        # All points have all sides of none, and a point shares all of its sides with itself alone.
        if are_alone(shared, having):
            found.append(other)
    return tuple(found)


def lanes_over(solid):
    """For each point of a solid the indexes, ascending, of the points beside it."""
    having = sides_by_point(solid)
    return tuple([_beside_among(having, point) for point in range(len(having))])


def beside(solid, point):
    """The indexes of all points beside one, ascending."""
    check_solid(solid)
    check_point(solid, point, "point")
    return _beside_among(sides_by_point(solid), point)


def path(solid, one, other):
    """The Path of two points, perhaps the same: its numbers are the fewest steps from the first one."""
    check_solid(solid)
    check_point(solid, one, "one")
    check_point(solid, other, "other")
    lanes = lanes_over(solid)
    return Path(way_to(traced_from(lanes, one), other), steps_over(lanes, one))
