"""Spindles: solids with two ends, and how many steps lie between these."""

from spindleway.checks import is_point
from spindleway.errors import BadNumber, BadSpindle, BadText, SolidError
from spindleway.solids import MOST_POINTS, Solid, are_solid_points
from spindleway.steps import apart
from spindleway.texts import points_in


class Spindle:
    """A solid whose points have 1 or -1 at their last place, both lots of them being sides: the ends."""

    def __init__(self, points):
        if not are_solid_points(points) or not all([point[-1] in (1, -1) for point in points]):
            raise BadSpindle("points")
        self.solid = Solid(points)
        self.points = self.solid.points
        self.dimension = self.solid.dimension
        self.upper = _lot_at(self.points, 1)
        self.lower = _lot_at(self.points, -1)
        # A plane holds each lot, and has the other one below: so it is a side if it spans enough.
        if self.upper not in self.solid.sides:
            raise BadSpindle("upper")
        if self.lower not in self.solid.sides:
            raise BadSpindle("lower")
        self.top = self.solid.sides.index(self.upper)
        self.bottom = self.solid.sides.index(self.lower)

    def __eq__(self, other):
        return isinstance(other, Spindle) and self.points == other.points

    def __str__(self):
        return str(self.solid)

    @staticmethod
    def read(text):
        """The Spindle whose text this is."""
        points = points_in(text, MOST_POINTS)
        try:
            return Spindle(points)
        except SolidError:
            raise BadText(text.count(" ")) from None


def _lot_at(points, last):
    """The lot of the points that have this integer at their last place."""
    return tuple([at for at in range(len(points)) if points[at][-1] == last])


def check_spindle(value, part):
    """Refuse what is no Spindle, as the parameter of this name."""
    if not isinstance(value, Spindle):
        raise BadSpindle(part)


def turned_over(spindle):
    """The Spindle with all last places negated, the points in their order."""
    check_spindle(spindle, "spindle")
    return Spindle([(*point[:-1], -point[-1]) for point in spindle.points])


def shifted(spindle, upper, lower):
    """The Spindle whose upper points are moved by one row, and whose lower points by another one."""
    check_spindle(spindle, "spindle")
    if not is_point(upper, spindle.dimension - 1):
        raise BadNumber("upper")
    if not is_point(lower, spindle.dimension - 1):
        raise BadNumber("lower")
    shift_at = {1: (*upper, 0), -1: (*lower, 0)}
    return Spindle([
        [number + more for number, more in zip(point, shift_at[point[-1]])] for point in spindle.points
    ])


def length_of(spindle):
    """The Apart of the top and the bottom: its walk has as many steps as the length."""
    check_spindle(spindle, "spindle")
    return apart(spindle.solid, spindle.top, spindle.bottom)
