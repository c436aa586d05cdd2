"""Solids: points, their sides and the planes of these."""

from spindleway.algebra import product_of, rank_among
from spindleway.bits import bits_of, is_meet, lot_of
from spindleway.checks import are_points, is_list, is_lot, is_point, is_within
from spindleway.errors import BadLot, BadNumber, BadSolid, BadText, Misfit, SolidError, Spare, Twice
from spindleway.hull import ridges_among, rows_by_side
from spindleway.texts import points_in, written_point

LEAST_DIMENSION = 2
MOST_DIMENSION = 6
# At the place of each dimension the most points that a solid of it has; 0 where there are no solids.
MOST_POINTS = (0, 0, 16, 16, 16, 14, 12)


class Solid:
    """A solid, told by its points.

    Beside what the interface lists it keeps bits, for each side its points as bits, ridges, the triples
    (lot, one, other), and neighbours, for each side the numbers of its neighbours.
    """

    def __init__(self, points):
        if not are_solid_points(points):
            raise BadSolid("points")
        self.points = tuple([tuple(point) for point in points])
        self.dimension = len(self.points[0])
        _check_unlike(self.points)
        rows = rows_by_side(self.points)
        if rows is None:
            raise BadSolid("flat")
        self.sides = tuple(sorted([lot_of(bits) for bits in rows]))
        self.bits = tuple([bits_of(side) for side in self.sides])
        self.planes = tuple([(rows[bits][:-1], -rows[bits][-1]) for bits in self.bits])
        _check_corners(self.points, self.bits)
        self.ridges = _ridges_between(self.sides, self.bits, self.dimension)
        self.neighbours = _neighbours_over(self.ridges, len(self.sides))

    def __eq__(self, other):
        return isinstance(other, Solid) and self.points == other.points

    def __str__(self):
        return " / ".join([written_point(point) for point in self.points])

    @staticmethod
    def read(text):
        """The Solid whose text this is."""
        points = points_in(text, MOST_POINTS)
        try:
            return Solid(points)
        except SolidError:
            raise BadText(text.count(" ")) from None


def are_solid_points(points):
    """Whether these are points of as many integers, of a dimension and a number that a solid may have."""
    if not is_list(points, 1, None) or not is_list(points[0], LEAST_DIMENSION, MOST_DIMENSION):
        return False
    wide = len(points[0])
    return is_list(points, wide + 1, MOST_POINTS[wide]) and are_points(points, wide, wide)


def _check_unlike(points):
    for at in range(len(points)):
        if points[at] in points[:at]:
            raise Twice(points[at])


def _check_corners(points, sides):
    for at in range(len(points)):
        if not is_meet(1 << at, sides):
            raise Spare(points[at])


def _ridges_between(sides, bits, wide):
    """The triples (lot, one, other) of all ridges, ascending."""
    found = ridges_among(bits, wide)
    return tuple(sorted([
        (tuple([point for point in sides[one] if shared >> point & 1]), one, other)
        for shared, one, other in found
    ]))


def _neighbours_over(ridges, many):
    """For each of so many sides the numbers, ascending, of those with which it has a ridge in common."""
    found = [[] for _ in range(many)]
    for _, one, other in ridges:
        found[one].append(other)
        found[other].append(one)
    return tuple([tuple(sorted(numbers)) for numbers in found])


def check_solid(value):
    """Refuse what is no Solid, as the parameter solid."""
    if not isinstance(value, Solid):
        raise BadSolid("solid")


def check_side(solid, value, part):
    """Refuse what is not the number of a side of a solid."""
    if not is_within(value, 0, len(solid.sides) - 1):
        raise BadNumber(part)


def side_of(solid, lot):
    """The number of the side that has just the points of a lot, None if there is none."""
    check_solid(solid)
    if not is_lot(lot, len(solid.points)):
        raise BadLot("lot")
    if tuple(lot) not in solid.sides:
        return None
    return solid.sides.index(tuple(lot))


def moved(solid, rows, shift):
    """The Solid whose points are led by rows and moved by shift."""
    check_solid(solid)
    wide = solid.dimension
    if not is_list(rows, wide, wide) or not are_points(rows, wide, wide):
        raise BadNumber("rows")
    if not is_point(shift, wide):
        raise BadNumber("shift")
    if rank_among(rows, wide) < wide:
        raise Misfit("rows")
    return Solid([_led(point, rows, shift) for point in solid.points])


def _led(point, rows, shift):
    return [product_of(row, point) + more for row, more in zip(rows, shift)]
