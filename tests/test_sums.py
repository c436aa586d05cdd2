import unittest
from math import gcd

from spindleway.errors import BadNumber, BadSolid
from spindleway.papers import Denial, Paper
from spindleway.solids import Solid
from spindleway.sums import Best, best, worth_at
from tests.base import GREAT, ODD_VALUES, Case, product
from tests.corner_base import NO_NUMBERS, NO_SOLIDS, is_path, solids
from tests.samples import CUBE, MOST, TENT, curve, led, noise, noisy_rows


def some_rows(solid, seed):
    """Small rows and great ones, noughts, rows of sides, of ridges, and others that are made by the sides of a point."""
    wide = solid.dimension
    rows = [[0] * wide, noise(seed, wide, 2), noise(seed + 1, wide, 50), noise(seed + 2, wide, GREAT)]
    rows.append([int(place == seed % wide) for place in range(wide)])
    rows.extend([solid.planes[0][0], [7 * number for number in solid.planes[seed % len(solid.planes)][0]]])
    point = seed % len(solid.points)
    having = [plane[0] for side, plane in zip(solid.sides, solid.planes) if point in side]
    for weights in ([1] * len(having), [abs(number) for number in noise(seed, len(having), 9)], [1, 1]):
        rows.append([sum(weight * row[place] for weight, row in zip(weights, having)) for place in range(wide)])
    return rows


def is_best(solid, row, start, told):
    """Whether a paper is right, by its definition."""
    last = told.points[-1]
    worths = [product(row, solid.points[point]) for point in told.points]
    sums = [
        sum(weight * plane[0][place] for weight, plane in zip(told.weights, solid.planes))
        for place in range(solid.dimension)
    ]
    return (
        told.points[0] == start
        and is_path(solid.points, told.points)
        and all(one < other for one, other in zip(worths, worths[1:]))
        and len(told.weights) == len(solid.sides)
        and all(weight >= 0 for weight in told.weights)
        and all(last in side for weight, side in zip(told.weights, solid.sides) if weight)
        and told.by >= 1
        and sums == [told.by * number for number in row]
    )


class BestPaperTest(Case):
    def test_fields(self):
        for made in (Best([0, [1]], {}, "x"), Best(by="x", weights={}, points=(0, (1,)))):
            self.assertEqual((made.points, made.weights, made.by, made.word), ((0, (1,)), {}, "x", "best"))
            self.assertEqual(made.parts, ((0, (1,)), {}, "x"))
            self.assertIs(bool(made), True)
        self.assertTrue(issubclass(Best, Paper))
        self.assertFalse(issubclass(Best, Denial))


class WorthTest(Case):
    def test_worths(self):
        for seed, solid in enumerate(solids()):
            for row in some_rows(solid, seed):
                for point in range(len(solid.points)):
                    told = worth_at(solid=solid, row=row, point=point)
                    self.assertEqual(told, product(row, solid.points[point]))
                    self.assertEqual(worth_at(solid, tuple(row), point), told)

    def test_refused(self):
        cube = Solid(CUBE)
        for call, part in ((worth_at, "point"), (best, "start")):
            for value in ODD_VALUES + (1, [], [1, 1], [1] * 4, [1, 1, True], [None, 1, 1], [[1], 1, 1], [1.0, 1, 1]):
                for point in (0, None, 8):
                    self.refuses(BadNumber, {"part": "row"}, call, cube, value, point)
            for value in NO_NUMBERS + (8, -8):
                for row in ([1, 2, -1], (0, 0, 0)):
                    self.refuses(BadNumber, {"part": part}, call, cube, row, value)
            for value in NO_SOLIDS:
                self.refuses(BadSolid, {"part": "solid"}, call, value, [1, 2, -1], 0)
                self.refuses(BadSolid, {"part": "solid"}, call, value, None, None)


class BestTest(Case):
    def test_examples(self):
        cube, tent = Solid(CUBE), Solid(TENT)
        told = best(cube, [1, 2, -1], 1)
        self.assertEqual(
            [told.points[0], told.points[-1], worth_at(cube, (1, 2, -1), 1), worth_at(cube, (1, 2, -1), 6),
             [weight // told.by for weight in told.weights]],
            [1, 6, -1, 3, [0, 0, 1, 0, 2, 1]],
        )
        self.assertEqual(
            [best(tent, [0, 0, 0], 2).points, best(tent, [0, 0, 0], 2).weights, best(tent, [0, 0, 1], 4).points,
             worth_at(tent, [3, 0, 1], best(tent, [3, 0, 1], 0).points[-1])],
            [(2,), (0, 0, 0, 0, 0), (4,), 6],
        )

    def check_best(self, solid, row, start):
        told = best(solid=solid, row=row, start=start)
        self.assertIs(type(told), Best)
        self.assertEqual([type(each) for each in told.parts], [tuple, tuple, int])
        self.assertTrue(is_best(solid, row, start, told))
        worths = [product(row, point) for point in solid.points]
        self.assertEqual(worths[told.points[-1]], max(worths))
        if worths[start] == max(worths):
            self.assertEqual(told.points, (start,))
        self.assertEqual(best(solid, tuple(row), start), told)

    def test_each_start(self):
        for seed, solid in enumerate(solids()):
            for row in some_rows(solid, seed):
                for start in range(len(solid.points)):
                    self.check_best(solid, row, start)

    def test_rows_made_by_a_point(self):
        # What some sides of a point make has its greatest worth there: the path leads there or to one as good.
        for seed, solid in enumerate(solids()):
            for point in range(len(solid.points)):
                having = [plane[0] for side, plane in zip(solid.sides, solid.planes) if point in side]
                weights = [1 + abs(number) for number in noise(seed + point, len(having), 10 ** 12)]
                row = [sum(weight * each[place] for weight, each in zip(weights, having)) for place in range(solid.dimension)]
                for start in {0, point, len(solid.points) - 1}:
                    told = best(solid, row, start)
                    self.assertEqual(told.points[-1], point)
                    self.assertTrue(is_best(solid, row, start, told))

    def test_great_points(self):
        for wide, most in MOST.items():
            solid = Solid(led(curve(wide, most), noisy_rows(wide, wide, wide, 10 ** 50), noise(wide, wide, GREAT)))
            for row in (*noisy_rows(wide, 3, wide, GREAT), [0] * wide, solid.planes[0][0]):
                for start in (0, most - 1):
                    self.check_best(solid, row, start)

    def test_rows_times_an_integer(self):
        tent = Solid(TENT)
        for row in ([1, 2, 5], [3, 0, 1], [-1, 0, 0]):
            told = best(tent, row, 0)
            for times in (2, 10 ** 30):
                other = best(tent, [times * number for number in row], 0)
                self.assertEqual(other.points, told.points)
                self.assertEqual(
                    [told.by * weight for weight in other.weights],
                    [times * other.by * weight for weight in told.weights],
                )
                self.assertEqual(gcd(other.by, *other.weights), 1)

    def test_lists_changed_behind_the_call(self):
        cube, row = Solid(CUBE), [1, 2, -1]
        told = best(cube, row, 1)
        row[0] = -5
        self.assertEqual(told, best(cube, [1, 2, -1], 1))


if __name__ == "__main__":
    unittest.main()
