"""The sides between the ends of a spindle, their parts, and the crossings."""

from spindleway.bits import bits_of, is_meet
from spindleway.errors import Misfit
from spindleway.solids import check_side
from spindleway.spindles import check_spindle

RING_DIMENSION = 3


def between(spindle):
    """The lot of the numbers of the sides between the ends."""
    check_spindle(spindle, "spindle")
    ends = (spindle.top, spindle.bottom)
    return tuple([side for side in range(len(spindle.solid.sides)) if side not in ends])


def parts_of(spindle, side):
    """The lots of the upper and of the lower points that a side has."""
    check_spindle(spindle, "spindle")
    check_side(spindle.solid, side, "side")
    lot = spindle.solid.sides[side]
    upper = tuple([point for point in lot if point in spindle.upper])
    lower = tuple([point for point in lot if point in spindle.lower])
    return upper, lower


def crossings(spindle):
    """The pairs of an upper and a lower point that are all that the sides with both have in common."""
    check_spindle(spindle, "spindle")
    return tuple([
        (upper, lower)
        for upper in spindle.upper
        for lower in spindle.lower
        if is_meet(bits_of((upper, lower)), spindle.solid.bits)
    ])


def ring_of(spindle):
    """The numbers of the sides between, in dimension three, each a neighbour of the next one."""
    check_spindle(spindle, "spindle")
    if spindle.dimension != RING_DIMENSION:
        raise Misfit("dimension")
    sides = between(spindle)
    ring = [sides[0]]
    while len(ring) < len(sides):
        beyond = [side for side in spindle.solid.neighbours[ring[-1]] if side in sides and side not in ring]
        # At the first side both ways are open, and the neighbours ascend; later on there is but one way.
        ring.append(beyond[0])
    return tuple(ring)
