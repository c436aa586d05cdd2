"""The ridges of a solid, and which sides are neighbours."""

from spindleway.solids import check_side, check_solid


def ridges_of(solid):
    """A triple (lot, one, other) for each ridge, one below other being numbers of sides; ascending."""
    check_solid(solid)
    return solid.ridges


def near(solid, side):
    """The numbers of the neighbours of a side, ascending."""
    check_solid(solid)
    check_side(solid, side, "side")
    return solid.neighbours[side]


def are_near(solid, one, other):
    """Whether two sides are neighbours."""
    check_solid(solid)
    check_side(solid, one, "one")
    check_side(solid, other, "other")
    return other in solid.neighbours[one]
