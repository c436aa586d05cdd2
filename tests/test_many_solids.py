"""Solids near the bounds: their sides, and the time that many of them take, one after another."""

import unittest
from time import process_time

from spindleway.solids import Solid
from tests.base import product, sides
from tests.samples import MOST, board, cross, curve, joined, led, noisy_rows, simplex

# Of dimension six with twelve points: most choices of six of them lie in planes that cut the solid.
SLOW = (
    (5, -3000002, -3000003, 1000012, -8, 2), (18, 67, -3, 2, 49, 0), (7, 15, -2000003, -999993, 7, 3),
    (10, 43, 23999997, -14, 89, -80), (26, 107, 23999997, -14, 137, -80), (16, 1000061, 13999997, -6, 79, -48),
    (10, -1999945, 19999997, -18, 85, -60), (34, 75, 7999997, 26, 89, -56), (50, 139, 7999997, 26, 137, -56),
    (2, 3, -3, 2, 1, 0), (-6, 51, 31999997, -54, 97, -72), (-22, -13, 31999997, -54, 49, -72),
)
# Milliseconds for each solid, on the whole: here they take one or two, and trying all choices of points took thirty.
MOST_MILLISECONDS = 10

SQUARE = ((0, 0), (1, 0), (0, 1), (1, 1))
PRISM = tuple((*point, last) for point in simplex(2) for last in (0, 1))


def crossed(one, other):
    """Each point of a solid together with each point of another one."""
    return tuple((*point, *more) for point in one for more in other)


def pointed(points):
    """The points, so many times as large, with one number more, and a point on either hand of their middle."""
    large = [[len(points) * number for number in point] for point in points]
    middle = [sum(numbers) for numbers in zip(*points)]
    return (*((*point, 0) for point in large), (*middle, 7), (*middle, -7))


# As many points as may be in dimension four, five and six, or but few less; with sides of few points and of many.
NEAR_THE_BOUNDS = (
    curve(4, 16), board(4), crossed(simplex(2), curve(2, 5)), pointed(curve(3, 14)), crossed(curve(3, 8), ((0,), (1,))),
    curve(5, 14), joined(curve(2, 7), curve(2, 7)), pointed(pointed(board(3))), pointed(curve(4, 12)),
    crossed(simplex(2), simplex(3)), crossed(curve(4, 7), ((0,), (1,))),
    curve(6, 12), cross(6), joined(PRISM, SQUARE), pointed(pointed(cross(4))), pointed(curve(5, 10)), SLOW,
    crossed(simplex(5), ((0,), (1,))),
)


def like_ones(points, seed):
    """The same with a point less, with a point moved, in another order, and led."""
    wide = len(points[0])
    rows = noisy_rows(seed, wide, wide, 10 ** 6)
    led_points = led(points, rows, [0] * wide)
    at = seed % len(points)
    moved = [*led_points[:at], [number + seed % 7 for number in led_points[at]], *led_points[at + 1:]]
    return points, points[:-1], points[::-1], points[5:] + points[:5], led_points, led_points[:-1], tuple(moved)


class ManySolidsTest(unittest.TestCase):
    def solids_in_time(self, lots):
        """The Solids of all of some lots of points that are corners; they come in the time that is told."""
        start = process_time()
        found = [Solid(points) for points in lots]
        self.assertLess((process_time() - start) * 1000, MOST_MILLISECONDS * len(lots))
        return found

    def test_the_slow_one(self):
        solid = Solid(SLOW)
        self.assertEqual(len(solid.sides), 14)
        self.assertEqual(solid.sides, sides(SLOW))
        self.assertEqual(len(self.solids_in_time([SLOW] * 40)), 40)
        for many in range(12):
            self.assertEqual(len(Solid(SLOW[many:] + SLOW[:many]).sides), 14)

    def test_the_samples_are_near_the_bounds(self):
        for points in NEAR_THE_BOUNDS:
            self.assertIn(len(points), (MOST[len(points[0])], MOST[len(points[0])] - 1, MOST[len(points[0])] - 2))
        self.assertEqual({len(points[0]) for points in NEAR_THE_BOUNDS}, {4, 5, 6})

    def test_many(self):
        for wide in (4, 5, 6):
            lots = [
                each
                for seed, points in enumerate(NEAR_THE_BOUNDS)
                if len(points[0]) == wide
                for each in like_ones(points, seed)
            ]
            self.assertGreater(len(lots), 30)
            for points, solid in zip(lots, self.solids_in_time(lots)):
                self.check_planes(points, solid)

    def check_planes(self, points, solid):
        """Each plane holds its side and has all other points below."""
        for side, (row, number) in zip(solid.sides, solid.planes):
            worths = [product(row, point) - number for point in points]
            self.assertEqual(max(worths), 0)
            self.assertEqual(side, tuple(at for at, worth in enumerate(worths) if worth == 0))
        self.assertGreater(len(solid.sides), solid.dimension)

    def test_sides_by_definition(self):
        for points in NEAR_THE_BOUNDS:
            if len(points) <= 12:
                self.assertEqual(Solid(points).sides, sides(points))


if __name__ == "__main__":
    unittest.main()
