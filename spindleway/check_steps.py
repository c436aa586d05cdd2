"""Whether any values are right papers about steps and walks."""

from spindleway.checks import is_list
from spindleway.solids import check_side, check_solid
from spindleway.steps import Apart
from spindleway.walks import is_walk, tells_apart
from spindleway.ways import Ways, check_ends


def shows_apart(solid, one, other, value):
    """Whether a value is an Apart of any walk and any numbering that tell the same."""
    check_solid(solid)
    check_side(solid, one, "one")
    check_side(solid, other, "other")
    return type(value) is Apart and tells_apart(solid.neighbours, one, other, value.walk, value.numbers)


def shows_ways(solid, one, other, value):
    """Whether a value is a Ways of any as many walks as the dimension that share no side."""
    check_ends(solid, one, other)
    if type(value) is not Ways:
        return False
    if not is_list(value.walks, solid.dimension, solid.dimension):
        return False
    if not all([is_walk(solid.neighbours, walk, one, other) for walk in value.walks]):
        return False
    return _share_no_side(value.walks)


def _share_no_side(walks):
    """Whether walks between the same two sides, unlike ones, are unlike and share no other side."""
    straight = [walk for walk in walks if len(walk) == 2]
    ends = [walks[0][0], walks[0][-1]]
    inner = [side for walk in walks for side in walk[1:-1]]
    return len(straight) <= 1 and len(set(ends + inner)) == len(ends) + len(inner)
