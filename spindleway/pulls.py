"""Points pulled away from the middle of their end, until the spindle is plain."""

from spindleway.algebra import divisor_of, product_of
from spindleway.between import between
from spindleway.checks import is_within
from spindleway.errors import BadNumber
from spindleway.spindles import Spindle, check_spindle


def is_plain(spindle):
    """Whether each side between has as many points as the dimension."""
    check_spindle(spindle, "spindle")
    return not _wide_sides(spindle)


def _wide_sides(spindle):
    """The lots of the sides between of more points than the dimension."""
    lots = [spindle.solid.sides[side] for side in between(spindle)]
    return [lot for lot in lots if len(lot) > spindle.dimension]


def pulled(spindle, point):
    """The Spindle with a point, told by its index, pulled straight away from the middle of its end."""
    check_spindle(spindle, "spindle")
    if not is_within(point, 0, len(spindle.points) - 1):
        raise BadNumber("point")
    rows = [row[:-1] for row in spindle.points]
    end = spindle.upper if point in spindle.upper else spindle.lower
    away = _away_from_middle([rows[at] for at in end], rows[point])
    times = len(end) * _least_part(spindle, point, len(end), away)
    grown = [[times * number for number in row] for row in rows]
    grown[point] = [number + more for number, more in zip(grown[point], away)]
    divisor = divisor_of([number for row in grown for number in row])
    return Spindle([
        [number // divisor for number in row] + [old[-1]] for row, old in zip(grown, spindle.points)
    ])


def _away_from_middle(end, row):
    """What leads to a point of an end from the middle of it, times the number of the end's points."""
    return [len(end) * row[place] - sum([each[place] for each in end]) for place in range(len(row))]


def _least_part(spindle, point, many, away):
    """The least integer from 1 on by which away may be divided, the point then staying below the planes.

    These are the planes of the sides that do not have the point; away is told many times as long as it is.
    """
    least = 1
    for lot, (row, number) in zip(spindle.solid.sides, spindle.solid.planes):
        if point not in lot:
            lack = number - product_of(row, spindle.points[point])
            least = max(least, product_of(row, away) // (many * lack) + 1)
    return least


def made_plain(spindle):
    """The plain Spindle that comes of the pulls of pulls_of, one after another."""
    check_spindle(spindle, "spindle")
    return _pulled_through(spindle)[0]


def pulls_of(spindle):
    """The lot of the points that are pulled, in their order, to make a spindle plain."""
    check_spindle(spindle, "spindle")
    return _pulled_through(spindle)[1]


def _pulled_through(spindle):
    """The plain Spindle that comes of a spindle, and the lot of the points that were pulled for it."""
    pulls = []
    for point in range(len(spindle.points)):
        if [lot for lot in _wide_sides(spindle) if point in lot]:
            spindle = pulled(spindle, point)
            pulls.append(point)
    return spindle, tuple(pulls)
