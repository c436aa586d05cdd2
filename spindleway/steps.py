"""How many steps sides are apart, and the paper that shows it."""

from spindleway.papers import Paper
from spindleway.solids import check_side, check_solid
from spindleway.walks import steps_over, traced_from, way_to


class Apart(Paper):
    """A walk from a side to another one, and a numbering that grows by as many as the walk has steps."""

    def __init__(self, walk, numbers):
        super().__init__("apart", walk, numbers)
        self.walk = self.parts[0]
        self.numbers = self.parts[1]


def steps_from(solid, side):
    """For each side, in order, how many steps it is apart from the one that is told."""
    check_solid(solid)
    check_side(solid, side, "side")
    return steps_over(solid.neighbours, side)


def apart(solid, one, other):
    """The Apart of two sides, perhaps the same, with the numbers of steps_from(solid, one)."""
    check_solid(solid)
    check_side(solid, one, "one")
    check_side(solid, other, "other")
    walk = way_to(traced_from(solid.neighbours, one), other)
    return Apart(walk, steps_over(solid.neighbours, one))


def farthest(solid):
    """The first pair of sides that are as many steps apart as any two are, and these steps."""
    check_solid(solid)
    found = (0, 0, 0)
    for one in range(len(solid.sides)):
        steps = steps_over(solid.neighbours, one)
        for other in range(one + 1, len(steps)):
            if steps[other] > found[2]:
                found = (one, other, steps[other])
    return found
