"""Spindles for the tests, told by their points."""

from tests.samples import board, cross, curve, led, noisy_rows, simplex

ROOF = ((0, 0, 1), (2, 0, 1), (0, 2, 1), (0, 0, -1), (2, 0, -1), (2, 2, -1), (0, 2, -1))
TWIST = ((0, 0, 1), (3, 0, 1), (0, 3, 1), (3, 3, -1), (0, 3, -1), (3, 0, -1))
FOUR = (
    (0, 0, 0, 1), (1, 0, 0, 1), (0, 1, 0, 1), (0, 0, 1, 1), (0, 0, 0, -1), (-1, 0, 0, -1), (0, -1, 0, -1), (0, 0, -1, -1),
)
WIDE = (
    (2, 0, 0, 1), (-2, 0, 0, 1), (0, 2, 0, 1), (0, -2, 0, 1), (0, 0, 2, 1), (0, 0, -2, 1),
    (1, 1, 1, -1), (1, 1, -1, -1), (1, -1, 1, -1), (1, -1, -1, -1),
    (-1, 1, 1, -1), (-1, 1, -1, -1), (-1, -1, 1, -1), (-1, -1, -1, -1),
)
PRISM = ((0, 0, 1), (3, 0, 1), (0, 3, 1), (0, 0, -1), (3, 0, -1), (0, 3, -1))
MOVED_ONE = ((-1, -1, 1), *PRISM[1:])
TURNED_ONE = (*PRISM[:3], (3, 3, -1), (0, 3, -1), (3, 0, -1))
EDGES = (
    (2, 0, 0, 0, 1), (-2, 0, 0, 0, 1), (0, 4, 0, 2, 1), (0, -2, 4, 2, 1), (0, -2, -4, 2, 1),
    (2, 0, 0, 0, -1), (-2, 0, 0, 0, -1), (0, -4, 0, 2, -1), (0, 2, 4, 2, -1), (0, 2, -4, 2, -1),
)
TWISTED = (*EDGES[:5], (2, 1, 0, 0, -1), (-2, -1, 0, 0, -1), *EDGES[7:])
_REST = (
    (0, 0, 20, -20, 1), (0, 0, -20, -20, 1), (40, 20, 60, 0, -1), (-60, 20, 20, 0, -1), (20, -80, -20, 0, -1),
    (20, 40, -100, 0, -1), (0, 0, 0, -140, -1),
)
ELEVEN = ((20, 20, 0, 0, 1), (20, -20, 0, 0, 1), (-20, 20, 0, 0, 1), (-20, -20, 0, 0, 1), *_REST)
BENT = ((20, 20, 1, 0, 1), (20, -20, -1, 0, 1), (-20, 20, -1, 0, 1), (-20, -20, 1, 0, 1), *_REST)
KITE = ((0, 0, 1), (1, 0, 1), (0, 1, 1), (2, 1, -1), (-1, 2, -1), (-2, -1, -1), (1, -2, -1))
CROSSED = ((2, 0, 1), (0, 2, 1), (-2, 0, 1), (0, -2, 1), (1, 1, -1), (-1, 1, -1), (-1, -1, -1), (1, -1, -1))
NINE = (
    (-3, -4, -2, 1), (-2, -2, -4, 1), (-4, 1, 0, 1), (-4, -4, 2, 1),
    (2, 2, 0, -1), (-2, 2, 0, -1), (-2, -2, 0, -1), (2, -2, 0, -1), (1, 0, 3, -1),
)
# Of dimension four, with just sixteen and just seventeen crossings.
SIXTEEN = (
    (-1, 2, 1, 1), (-1, 0, -1, 1), (0, 0, -2, 1), (-1, 2, 2, 1), (-1, -2, 0, 1), (2, 2, -1, 1),
    (-1, 1, 1, -1), (1, -2, 0, -1), (0, 1, -1, -1), (1, 2, 1, -1),
)
SEVENTEEN = (
    (0, 2, 2, 1), (2, -1, 0, 1), (2, 1, 1, 1), (1, -1, 1, 1), (0, 1, 1, 1), (1, -1, 2, 1), (2, 0, 0, 1),
    (1, 0, 1, -1), (-2, 0, 0, -1), (1, 0, -1, -1), (1, -2, -2, -1),
)
# The points of both ends stand in turn.
MIXED = tuple(point for pair in zip(FOUR[:4], FOUR[4:]) for point in pair)


def ends(upper, lower):
    """The points of a spindle with these ends."""
    return (*((*point, 1) for point in upper), *((*point, -1) for point in lower))


def negated(points):
    return tuple(tuple(-number for number in point) for point in points)


def flattened(points):
    """The points with one number more, and a last one that does not lie among them."""
    return (*((*point, 0) for point in points), (*[1] * len(points[0]), 1))


FLAT = (((0,), (3,)), ((-1,), (1,)))
# Four points of a square, and three others that stand over it.
SEVEN = (*((*point, 0, 0) for point in board(2)), (0, 0, 1, 0), (0, 0, 0, 1), (1, 1, 1, 1))

# Spindles of as many points as may be in each dimension; of more than four points none has dimension two.
MOST_ENDS = (
    FLAT,
    (curve(2, 8), curve(2, 8)), (curve(2, 3), curve(2, 13)), (curve(2, 8), negated(curve(2, 8))),
    (board(3), board(3)), (curve(3, 8), negated(curve(3, 8))), (cross(3), curve(3, 10)),
    (curve(4, 7), negated(curve(4, 7))), (cross(4)[:7], simplex(4) + ((1, 1, 1, 1), (2, 0, 2, 0))),
    (SEVEN, SEVEN),
    (simplex(5), negated(simplex(5))), (simplex(5), simplex(5)), (curve(5, 6), simplex(5)),
)
MOST_POINTS = tuple(ends(upper, lower) for upper, lower in MOST_ENDS)

SPINDLES = (
    ROOF, TWIST, FOUR, WIDE, PRISM, MOVED_ONE, TURNED_ONE, EDGES, TWISTED, ELEVEN, BENT, KITE, CROSSED, NINE,
    SIXTEEN, SEVENTEEN, MIXED, ROOF[::-1], TWISTED[::-1],
    ends(simplex(4), negated(simplex(4))), ends(flattened(cross(3)), flattened(simplex(3))),
    *MOST_POINTS,
)


def great(points, seed, most):
    """The same spindle, led by rows of great integers, its ends each at another place."""
    wide = len(points[0]) - 1
    rows = noisy_rows(seed, wide, wide, most)
    upper, lower = noisy_rows(seed + 1, 2, wide, most)
    return tuple(
        (*led([point[:-1]], rows, upper if point[-1] == 1 else lower)[0], point[-1]) for point in points
    )


def moved_a_little(points, seed):
    """The points, ten times as large, and one number of one of them greater or less by one."""
    at = seed % len(points)
    place = seed // len(points) % (len(points[0]) - 1)
    found = [[*(10 * number for number in point[:-1]), point[-1]] for point in points]
    found[at][place] += 1 if seed % 2 else -1
    return tuple(tuple(point) for point in found)
