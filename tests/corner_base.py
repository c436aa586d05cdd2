"""Which points are beside one another by their definition, and solids of few sides, for the tests."""

from functools import cache
from itertools import combinations

from spindleway.errors import SolidError
from spindleway.solids import Solid
from spindleway.spindles import Spindle
from tests.base import ODD_VALUES, sides
from tests.samples import CUBE, MOST, SOLIDS, board, cross, curve, joined, led, noise, noisy_rows, simplex

NO_SOLIDS = ODD_VALUES + (3, CUBE, list(CUBE), str(Solid(CUBE)), Spindle([(0, 1), (3, 1), (-1, -1), (1, -1)]))
NO_NUMBERS = ODD_VALUES + ([], [0], (1,), "0", 0.0, -1, -2, 10 ** 60, -(10 ** 60))


def crossed(one, other):
    return tuple((*point, *more) for point in one for more in other)


def told_twice(points):
    """The same with great integers, and in another order."""
    wide = len(points[0])
    rows = noisy_rows(len(points), wide, wide, 10 ** 20)
    return points[::-1], led(points, rows, noise(wide, wide, 10 ** 30))


# Most of them have no more sides than a solid of their dimension may have points.
FEW_SIDES = (
    simplex(2), curve(2, 16), ((0, 0), (5, 1), (7, 4), (2, 9)), simplex(3), CUBE, cross(3), curve(3, 10), curve(3, 7),
    simplex(4), board(4), crossed(simplex(2), simplex(2)), curve(4, 6), cross(4), crossed(simplex(3), ((0,), (1,))),
    simplex(5), crossed(simplex(3), simplex(2)), curve(5, 7), joined(simplex(3), ((0,), (1,))),
    simplex(6), curve(6, 8), joined(simplex(2), simplex(3)),
)


@cache
def solids():
    """Solids of dimension two to six."""
    return tuple(Solid(points) for points in SOLIDS)


@cache
def few_sided():
    found = [Solid(points) for points in FEW_SIDES]
    found = found + [Solid(other) for points in FEW_SIDES for other in told_twice(points)]
    return tuple(solid for solid in found if len(solid.sides) <= MOST[solid.dimension])


@cache
def own_sides(points):
    """The sides by their definition where this does not take too long."""
    return sides(points) if len(points) < 12 else Solid(points).sides


@cache
def lanes(points):
    """For each point those beside it, by the definition."""
    found = [[] for _ in points]
    for one, other in combinations(range(len(points)), 2):
        having = [set(side) for side in own_sides(points) if one in side and other in side]
        if having and set.intersection(*having) == {one, other}:
            found[one].append(other)
            found[other].append(one)
    return tuple(tuple(sorted(each)) for each in found)


def is_path(points, value):
    return all(other in lanes(points)[one] for one, other in zip(value, value[1:]))


def is_numbering(points, numbers):
    return all(
        abs(numbers[one] - numbers[other]) <= 1 for one in range(len(points)) for other in lanes(points)[one]
    )


@cache
def rings(points, start):
    """How many steps each point is from one, by one ring after another."""
    steps = {start: 0}
    front = {start}
    while front:
        front = {other for point in front for other in lanes(points)[point]} - set(steps)
        far = max(steps.values()) + 1
        steps.update({point: far for point in front})
    return tuple(steps[point] for point in range(len(points)))


@cache
def boards():
    """Boards of dimension two to five: whole ones, and parts that span as much."""
    found = [Solid(board(wide)) for wide in (2, 3, 4)]
    for wide in (2, 3, 4, 5):
        points = board(wide)
        for seed in range(24):
            chosen = [point for point, number in zip(points, noise(seed, len(points), 9)) if number % 3 <= seed % 3]
            try:
                found.append(Solid(chosen[:MOST[wide]]))
            except SolidError:
                continue
    return tuple(found)
