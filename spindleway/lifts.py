"""Spindles lifted over one of their points: one point more, one dimension more."""

from spindleway.algebra import span_among
from spindleway.checks import is_list, is_point, is_within
from spindleway.errors import BadNumber, BadPaper, Misfit, TooMany
from spindleway.papers import Paper
from spindleway.pieces import are_plain_pieces, drawn_end, drawn_points, least_well, new_places, piece_rows
from spindleway.pulls import is_plain
from spindleway.solids import MOST_DIMENSION, MOST_POINTS
from spindleway.spindles import Spindle, check_spindle


class Lift(Paper):
    """A lift of a plain spindle that lies well, and after which it is plain again."""

    def __init__(self, point, heights, by):
        super().__init__("lift", point, heights, by)
        self.point = self.parts[0]
        self.heights = self.parts[1]
        self.by = self.parts[2]


def check_lift(spindle, point, heights, by):
    """Refuse what tells no lift of a spindle."""
    check_spindle(spindle, "spindle")
    if not is_within(point, 0, len(spindle.points) - 1):
        raise BadNumber("point")
    if not is_point(heights, len(drawn_end(spindle, point))):
        raise BadNumber("heights")
    if not is_within(by, 1, None):
        raise BadNumber("by")
    if spindle.dimension == MOST_DIMENSION:
        raise Misfit("dimension")
    _check_room(spindle)
    if span_among(drawn_points(spindle, point, heights), spindle.dimension) < spindle.dimension:
        raise Misfit("heights")


def _check_room(spindle):
    """Refuse a spindle that has as many points as one of a dimension more may have."""
    most = MOST_POINTS[spindle.dimension + 1]
    if len(spindle.points) + 1 > most:
        raise TooMany("points", most)


def _check_plain(spindle):
    if not is_plain(spindle):
        raise Misfit("plain")


def check_liftable(spindle):
    """Refuse what is no plain spindle that a Lift may be told for."""
    check_spindle(spindle, "spindle")
    _check_plain(spindle)
    if len(spindle.points) <= 2 * spindle.dimension:
        raise Misfit("points")
    _check_room(spindle)


def lifted(spindle, point, heights, by):
    """The Spindle lifted over a point, told by its index, by an integer, its drawn end by heights."""
    check_lift(spindle, point, heights, by)
    places = new_places(spindle, point, heights)
    places[point] = by
    rows = [(*row[:-1], place, row[-1]) for row, place in zip(spindle.points, places)]
    copied = spindle.points[point]
    return Spindle(rows + [(*copied[:-1], -by, copied[-1])])


def least_by(spindle, point, heights):
    """The least integer from 1 on by which this lift of a plain spindle lies well."""
    check_lift(spindle, point, heights, 1)
    _check_plain(spindle)
    return least_well(spindle, point, heights, piece_rows(spindle, point, heights))


def point_to_lift(spindle):
    """The point over which a Lift is: the first one of the other end than the one that is drawn."""
    drawn_upper = len(spindle.upper) > spindle.dimension
    return spindle.lower[0] if drawn_upper else spindle.upper[0]


def lift_of(spindle):
    """A Lift of a plain spindle of more points than twice its dimension."""
    check_liftable(spindle)
    point = point_to_lift(spindle)
    many = len(drawn_end(spindle, point))
    base = 2
    heights = _powers_of(base, many)
    pieces = piece_rows(spindle, point, heights)
    # Some base will do: that one point more lies in the plane of a piece is an equation for the base.
    while pieces is None or not are_plain_pieces(spindle, pieces):
        base = 2 * base
        heights = _powers_of(base, many)
        pieces = piece_rows(spindle, point, heights)
    return Lift(point, heights, least_well(spindle, point, heights, pieces))


def _powers_of(base, many):
    """1, base, base times base, and so on: so many integers."""
    powers = [1]
    while len(powers) < many:
        powers.append(powers[-1] * base)
    return powers


def lifts_of(spindle):
    """Lifts, one after another, that lead a plain spindle to twice as many points as the dimension."""
    check_spindle(spindle, "spindle")
    _check_plain(spindle)
    if len(spindle.points) > spindle.dimension + MOST_DIMENSION:
        raise Misfit("points")
    lifts = []
    for left in range(len(spindle.points) - 2 * spindle.dimension, 0, -1):
        lift = lift_of(spindle)
        lifts.append(lift)
        if left > 1:
            spindle = lifted(spindle, lift.point, lift.heights, lift.by)
    return tuple(lifts)


def led_through(spindle, lifts):
    """The Spindle behind some lifts, one after another."""
    check_spindle(spindle, "spindle")
    if not is_list(lifts, 0, None) or not all([type(lift) is Lift for lift in lifts]):
        raise BadPaper("lifts")
    for lift in lifts:
        spindle = lifted(spindle, lift.point, lift.heights, lift.by)
    return spindle
