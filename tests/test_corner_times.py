"""The time that corners, turned solids, boards and sums take near the bounds, many of them one after another."""

import unittest

from spindleway.boards import agreeing, is_board, short_path
from spindleway.check_corners import shows_best, shows_path, shows_short
from spindleway.corners import beside, path
from spindleway.solids import Solid
from spindleway.sums import best, worth_at
from spindleway.turned import turned
from spindleway.ways import parted
from tests.base import GREAT, ManyCase
from tests.corner_base import boards, crossed
from tests.samples import MOST, board, curve, joined, led, noise, noisy_rows, simplex
from tests.test_many_solids import NEAR_THE_BOUNDS, pointed
from tests.test_turned import inside


def with_great_ones(points):
    """The points, and the same led by great integers, so that there are some of sixty digits."""
    wide = len(points[0])
    greatest = max(abs(number) for point in points for number in point) + 1
    rows = noisy_rows(wide, wide, wide, GREAT // (2 * wide * greatest))
    return Solid(points), Solid(led(points, rows, noise(wide, wide, GREAT // 2)))


def many_points():
    lots = [curve(wide, most) for wide, most in MOST.items()] + list(NEAR_THE_BOUNDS)
    return [solid for points in lots for solid in with_great_ones(points)]


def many_sides():
    """Solids of about as many sides as a solid of their dimension may have points."""
    lots = (
        curve(2, 16), curve(3, 10), pointed(curve(2, 8)), crossed(curve(2, 8), ((0,), (1,))), curve(4, 6),
        crossed(curve(2, 4), curve(2, 4)), crossed(curve(2, 3), curve(2, 5)), crossed(simplex(2), simplex(3)),
        joined(simplex(2), simplex(2)), crossed(((0,), (1,)), simplex(5)), pointed(simplex(5)), board(4), simplex(6),
    )
    found = [solid for points in lots if len(points) <= MOST[len(points[0])] for solid in with_great_ones(points)]
    # Of no order, so that there are no common divisors.
    for points in (curve(2, 16), curve(3, 10), curve(4, 7), curve(5, 7), pointed(simplex(4)), pointed(simplex(5))):
        wide = len(points[0])
        found.append(Solid([
            [number * 10 ** 48 + more for number, more in zip(point, noise(at, wide, 10 ** 46))]
            for at, point in enumerate(led(points, noisy_rows(wide, wide, wide, 1000), [0] * wide))
        ]))
    return [solid for solid in found if len(solid.sides) <= MOST[solid.dimension]]


class TimesTest(ManyCase):
    def test_points(self):
        lots = many_points()
        self.assertEqual({solid.dimension for solid in lots}, {2, 3, 4, 5, 6})
        self.many_in_time(beside, [(solid, 0) for solid in lots] * 3)
        pairs = [(solid, at, len(solid.points) - 1 - at) for solid in lots for at in range(3)]
        told = self.many_in_time(path, pairs)
        self.assertTrue(all(self.many_in_time(shows_path, [(*each, paper) for each, paper in zip(pairs, told)])))

    def test_sums(self):
        lots = [
            (solid, row, start)
            for solid in many_points()
            for row in (*noisy_rows(solid.dimension, 2, solid.dimension, GREAT), solid.planes[-1][0])
            for start in (0, len(solid.points) - 1)
        ]
        self.many_in_time(worth_at, lots)
        told = self.many_in_time(best, lots)
        self.assertTrue(all(self.many_in_time(shows_best, [(*each, paper) for each, paper in zip(lots, told)])))

    def test_turned(self):
        solids = many_sides()
        self.assertEqual({solid.dimension for solid in solids}, {2, 3, 4, 5, 6})
        self.assertGreater(len(solids), 25)
        lots = [(solid, *inside(solid, seed)) for seed in range(3) for solid in solids]
        told = self.many_in_time(turned, lots)
        back = self.many_in_time(turned, [(solid, [0] * solid.dimension) for solid in told])
        for one, other in zip(lots, back):
            self.assertEqual(len(one[0].points), len(other.points))
        # What was turned is long, and is a solid all the same.
        self.many_in_time(Solid, [(solid.points,) for solid in told])

    def test_boards(self):
        lots = [
            (solid, at, len(solid.points) - 1 - at)
            for solid in boards()
            for at in range(min(4, len(solid.points)))
        ]
        self.assertTrue(all(self.many_in_time(is_board, [each[:1] for each in lots])))
        self.many_in_time(agreeing, lots)
        told = self.many_in_time(short_path, lots)
        self.assertTrue(all(self.many_in_time(shows_short, [(*each, paper) for each, paper in zip(lots, told)])))

    def test_parted(self):
        # All sides of the others are looked at once, not once for each of them.
        lots = [(solid, (0, len(solid.sides) - 1)) for solid in many_points()]
        self.many_in_time(parted, lots * 3)


if __name__ == "__main__":
    unittest.main()
