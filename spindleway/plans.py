"""What the lifts of a plain spindle lead to, by the facts."""

from spindleway.checks import is_within
from spindleway.errors import BadNumber
from spindleway.papers import Paper

LEAST = 2


class Plan(Paper):
    """A dimension, how many points, a length, and by how much the length is above the dimension."""

    def __init__(self, dimension, points, length, above):
        super().__init__("plan", dimension, points, length, above)
        self.dimension = self.parts[0]
        self.points = self.parts[1]
        self.length = self.parts[2]
        self.above = self.parts[3]


def plan(dimension, points, length):
    """The Plan for a plain spindle of a dimension, with so many points and a length."""
    if not is_within(dimension, LEAST, None):
        raise BadNumber("dimension")
    if not is_within(points, 2 * dimension, None):
        raise BadNumber("points")
    if not is_within(length, LEAST, None):
        raise BadNumber("length")
    reached = points - dimension
    return Plan(reached, 2 * reached, length + points - 2 * dimension, length - dimension)
