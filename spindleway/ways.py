"""As many walks as the dimension that share no side, and the pieces that are left of the sides."""

from spindleway.checks import is_lot
from spindleway.errors import BadLot, Misfit
from spindleway.papers import Paper
from spindleway.solids import check_side, check_solid
from spindleway.walks import pieces_over, traced_from, way_to


class Ways(Paper):
    """As many walks from a side to another one as the dimension, that share no side."""

    def __init__(self, walks):
        super().__init__("ways", walks)
        self.walks = self.parts[0]


def check_ends(solid, one, other):
    """Refuse what is no solid with two unlike sides."""
    check_solid(solid)
    check_side(solid, one, "one")
    check_side(solid, other, "other")
    if one == other:
        raise Misfit("sides")


def ways(solid, one, other):
    """The Ways of two unlike sides.

    Each side has an entry (side, 0) and an exit (side, 1), with one lane between them, so that no more
    than one walk goes through it. Each walk that is found turns its lanes round: a later one may
    lead back over them, and by this undo a part of the earlier one.
    """
    check_ends(solid, one, other)
    lanes = _lanes_at_first(solid.neighbours)
    for _ in range(solid.dimension):
        _turn_round(lanes, way_to(traced_from(lanes, (one, 1)), (other, 0)))
    return Ways(_walks_of(lanes, solid.neighbours, one, other))


def _lanes_at_first(neighbours):
    lanes = {}
    for side in range(len(neighbours)):
        lanes[(side, 0)] = [(side, 1)]
        lanes[(side, 1)] = [(beyond, 0) for beyond in neighbours[side]]
    return lanes


def _turn_round(lanes, way):
    for at in range(1, len(way)):
        lanes[way[at - 1]].remove(way[at])
        lanes[way[at]].append(way[at - 1])


def _walks_of(lanes, neighbours, one, other):
    """The walks that the turned lanes tell."""
    walks = []
    for first in _led_on(lanes, neighbours, one):
        walk = [one, first]
        while walk[-1] != other:
            walk.append(_led_on(lanes, neighbours, walk[-1])[0])
        walks.append(walk)
    return walks


def _led_on(lanes, neighbours, side):
    """The sides to which walks lead on from a side: the lanes from it to them are turned round."""
    return [beyond for beyond in neighbours[side] if (side, 1) in lanes[(beyond, 0)]]


def parted(solid, gone):
    """The pieces of the sides that are not gone, each ascending, ascending."""
    check_solid(solid)
    if not is_lot(gone, len(solid.sides)):
        raise BadLot("gone")
    lanes = {}
    for side in range(len(solid.sides)):
        if side not in gone:
            lanes[side] = [beyond for beyond in solid.neighbours[side] if beyond not in gone]
    return pieces_over(lanes)
