"""Pairs of spindles for the tests, and what lies over by its definition alone."""

from functools import cache
from itertools import product

from spindleway.errors import SolidError
from spindleway.ridges import are_near
from spindleway.solids import Solid
from spindleway.spindles import Spindle, turned_over
from tests.base import ODD_VALUES
from tests.samples import cross, curve
from tests.spindle_samples import (
    BENT, EDGES, ELEVEN, FOUR, MOVED_ONE, NINE, PRISM, ROOF, SEVEN, SPINDLES, TURNED_ONE, TWISTED, ends, moved_a_little,
)


def mixed(points):
    """The points of both ends in turn, as long as there are some, and the first one moved to the end.

    So it may be that no end is the first side or the last one.
    """
    upper = [point for point in points if point[-1] == 1]
    lower = [point for point in points if point[-1] == -1]
    both = [point for pair in zip(upper, lower) for point in pair]
    return (*both[1:], *[point for point in points if point not in both], both[0])


NO_SPINDLES = ODD_VALUES + (3, ROOF, Solid(ROOF), str(Solid(ROOF)))


@cache
def pairs():
    """Pairs (first, second) of spindles with the same ends, told by their indexes."""
    found = [(PRISM, MOVED_ONE), (PRISM, TURNED_ONE), (MOVED_ONE, PRISM), (EDGES, TWISTED), (ELEVEN, BENT),
             (TWISTED, EDGES), (BENT, ELEVEN)]
    found = found + [(mixed(one), mixed(other)) for one, other in found]
    found = [(Spindle(one), Spindle(other)) for one, other in found]
    wanted = (PRISM, FOUR, NINE, EDGES, ends(SEVEN, SEVEN), ends(cross(3), cross(3)), ends(curve(4, 7), curve(4, 7)))
    for points in wanted:
        first = Spindle(points)
        for seed in range(0, 40, 3):
            try:
                second = Spindle(moved_a_little(points, seed))
            except SolidError:
                continue
            found.extend([(first, second), (second, first)])
    found.extend([(Spindle(points), Spindle(points)) for points in SPINDLES])
    return found


def holders(first, second):
    """For each side of second the numbers of all sides of first that hold it."""
    return [
        [number for number, side in enumerate(first.solid.sides) if set(lot) <= set(side)]
        for lot in second.solid.sides
    ]


def neighbours(spindle):
    """The pairs (one, other) of neighbours, one below other, ascending."""
    many = len(spindle.solid.sides)
    return [(one, other) for one in range(many) for other in range(one + 1, many) if are_near(spindle.solid, one, other)]


def leaps(first, second, sides):
    """All pairs of neighbours of second that are led neither to neighbours nor to the same side."""
    return [
        (one, other)
        for one, other in neighbours(second)
        if sides[one] != sides[other] and not are_near(first.solid, sides[one], sides[other])
    ]


def right_choices(first, second, most):
    """Some of the choices of sides, and whether second is led well by them, of at most so many choices."""
    rows = holders(first, second)
    many = 1
    for row in rows:
        many *= len(row)
    if not 1 < many <= most:
        return []
    return [(sides, not leaps(first, second, sides)) for sides in product(*rows)]


# Spindles that do not fit together, each pair with the part of the Misfit.
MISFITS = (
    (PRISM, FOUR, "dimension"), (FOUR, PRISM, "dimension"), (EDGES, NINE, "dimension"), (PRISM, EDGES, "dimension"),
    (PRISM, ROOF, "points"), (ROOF, PRISM, "points"), (FOUR, NINE, "points"), (EDGES, ELEVEN, "points"),
    (PRISM, PRISM[::-1], "ends"), (ROOF, ROOF[::-1], "ends"), (EDGES, EDGES[::-1], "ends"),
    (PRISM, turned_over(Spindle(PRISM)).points, "ends"),
)
