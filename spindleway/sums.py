"""What a row is worth at the points of a solid, where it is worth most, and the sum of sides that shows it."""

from spindleway.algebra import product_of, reduced
from spindleway.bits import bits_of, first_with_all
from spindleway.checks import is_point
from spindleway.corners import check_point, lanes_over
from spindleway.errors import BadNumber
from spindleway.papers import Paper
from spindleway.solids import check_solid


class Best(Paper):
    """A path on which the worth grows, and how often the rows of the last point's sides make the row, over by."""

    def __init__(self, points, weights, by):
        super().__init__("best", points, weights, by)
        self.points = self.parts[0]
        self.weights = self.parts[1]
        self.by = self.parts[2]


def check_row(solid, row, point, part):
    """Refuse what is no solid, with a row and a point that is told under the name of a part."""
    check_solid(solid)
    if not is_point(row, solid.dimension):
        raise BadNumber("row")
    check_point(solid, point, part)


def worth_at(solid, row, point):
    """The worth of a row at a point, told by its index."""
    check_row(solid, row, point, "point")
    return product_of(row, solid.points[point])


def best(solid, row, start):
    """A Best of a row, from a point on."""
    check_row(solid, row, start, "start")
    worths = [product_of(row, point) for point in solid.points]
    lanes = lanes_over(solid)
    points = [start]
    following = _most_worth(worths, lanes[start])
    while worths[following] > worths[points[-1]]:
        points.append(following)
        following = _most_worth(worths, lanes[following])
    weights, by = _weights_at(solid, points[-1], worths, lanes[points[-1]])
    return Best(points, weights, by)


def _most_worth(worths, points):
    """The first of some points at which the worth is greatest."""
    most = max([worths[point] for point in points])
    return [point for point in points if worths[point] == most][0]


def _weights_at(solid, last, worths, near):
    """How often each side's row makes the row that is worth most at the last point, and by how much this is too often.

    The row lacks something, 0 or more, at each point near the last one, those beside it. The row of a side of the
    last point that has all points where nothing is lacked is taken away as often as may be, so that nothing
    is lacked at one more. In the end nothing is lacked at any: then nothing is left of the row.
    """
    lacks = [worths[last] - worths[point] for point in near]
    weights = [0] * len(solid.sides)
    by = 1
    while any(lacks):
        side = _side_with(solid, last, [point for point, lack in zip(near, lacks) if lack == 0])
        row, number = solid.planes[side]
        beyond = [number - product_of(row, solid.points[point]) for point in near]
        often, over = _least_ratio(lacks, beyond)
        lacks = [lack * over - often * more for lack, more in zip(lacks, beyond)]
        weights = [weight * over for weight in weights]
        weights[side] += often
        *all_of, by = reduced([*lacks, *weights, by * over])
        lacks, weights = all_of[:len(near)], all_of[len(near):]
    return weights, by


def _side_with(solid, last, points):
    """The number of the first side that has the last point and some others."""
    return first_with_all(solid.bits, bits_of([last, *points]))


def _least_ratio(lacks, beyond):
    """The pair (lack, more) of the least ratio, where more is not 0."""
    pairs = [(lack, more) for lack, more in zip(lacks, beyond) if more > 0]
    least = pairs[0]
    for lack, more in pairs:
        if lack * least[1] < least[0] * more:
            least = (lack, more)
    return least
