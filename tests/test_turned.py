import unittest
from fractions import Fraction
from math import gcd, lcm

from spindleway.corners import beside
from spindleway.errors import BadNumber, BadSolid, Misfit, TooMany
from spindleway.hull import rows_by_side
from spindleway.ridges import near
from spindleway.solids import Solid
from spindleway.steps import steps_from
from spindleway.turned import turned
from tests.base import GREAT, ODD_VALUES, Case, product
from tests.corner_base import NO_SOLIDS, few_sided, rings, solids
from tests.samples import CUBE, MOST, curve, led, noise, noisy_rows

NO_BY = ODD_VALUES + ([], [1], (1,), "1", 1.0, 0, -1, -GREAT)
FLAT = ((0, 0), (3, 0), (0, 3))


def inside(solid, seed):
    """A point inside: each point so often, from 1 on, over how many these are."""
    weights = [1 + abs(number) for number in noise(seed, len(solid.points), 10 ** (seed % 9))]
    sums = [sum(weight * point[place] for weight, point in zip(weights, solid.points)) for place in range(solid.dimension)]
    return sums, sum(weights)


def turned_by_definition(solid, numbers, by):
    rows = [
        [Fraction(each, number * by - product(row, numbers)) for each in row] for row, number in solid.planes
    ]
    times = lcm(*[each.denominator for row in rows for each in row])
    return tuple(tuple(int(times * each) for each in row) for row in rows)


class TurnedTest(Case):
    def test_examples(self):
        flat, wide, cube = Solid(FLAT), Solid([(0, 0), (4, 0), (0, 2)]), Solid(CUBE)
        self.assertEqual(
            [turned(flat, [1, 1]).points, turned(flat, (1, 1), 2).points],
            [((0, -1), (-1, 0), (1, 1)), ((0, -4), (-4, 0), (1, 1))],
        )
        self.assertEqual(
            [turned(wide, [1, 1], 2).points, turned(turned(wide, [1, 1], 2), [0, 0]).points],
            [((0, -5), (-5, 0), (1, 2)), ((-1, -1), (7, -1), (-1, 3))],
        )
        self.assertEqual(
            turned(cube, [1, 1, 1], 2).points, ((-1, 0, 0), (0, -1, 0), (0, 0, -1), (0, 0, 1), (0, 1, 0), (1, 0, 0)),
        )
        self.refuses(Misfit, {"part": "point"}, turned, flat, [0, 1])

    def test_inside(self):
        for seed, solid in enumerate(few_sided()):
            for numbers, by in (inside(solid, seed), inside(solid, 9 * seed + 8)):
                for times in (1, 2, 10 ** 20):
                    many = [times * number for number in numbers]
                    told = turned(solid=solid, numbers=many, by=times * by)
                    self.assertIs(type(told), Solid)
                    self.assertEqual(told.points, turned_by_definition(solid, many, times * by))
                    self.check_sides(solid, told)

    def check_sides(self, solid, told):
        """For each point the sides that have it are a side of the turned one."""
        wanted = [
            tuple(number for number, side in enumerate(solid.sides) if point in side)
            for point in range(len(solid.points))
        ]
        self.assertEqual(told.sides, tuple(sorted(wanted)))
        for side, (row, number) in zip(told.sides, told.planes):
            self.assertEqual(gcd(*row), 1)
            worths = [product(row, point) - number for point in told.points]
            self.assertEqual(side, tuple(at for at, worth in enumerate(worths) if worth == 0))
            self.assertEqual(max(worths), 0)

    def test_by_left_out(self):
        large = Solid(led(CUBE, [[5, 0, 0], [0, 5, 0], [0, 0, 5]], [0, 0, 0]))
        for numbers in ([1, 2, 3], (4, 4, 1), [2, 2, 2]):
            self.assertEqual(turned(large, numbers), turned(large, numbers, 1))
            self.assertEqual(turned(large, numbers), turned(large, numbers, by=1))
            self.assertEqual(turned(large, numbers), Solid(turned_by_definition(large, numbers, 1)))

    def test_there_and_back(self):
        for seed, solid in enumerate(few_sided()):
            numbers, by = inside(solid, seed)
            other = turned(solid, numbers, by)
            told = turned(other, [0] * solid.dimension)
            rows = [[by * one - two for one, two in zip(point, numbers)] for point in solid.points]
            divisor = gcd(*[number for row in rows for number in row])
            wanted = [tuple(number // divisor for number in row) for row in rows]
            self.assertEqual(sorted(told.points), sorted(wanted))
            # In the order of the sides of the turned one.
            order = sorted(
                range(len(wanted)), key=lambda at: [number for number, side in enumerate(solid.sides) if at in side],
            )
            self.assertEqual(told.points, tuple(wanted[at] for at in order))

    def test_steps_are_paths(self):
        for seed, solid in enumerate(few_sided()):
            other = turned(solid, *inside(solid, seed))
            for side in range(len(solid.sides)):
                self.assertEqual(beside(other, side), near(solid, side))
            for side in (0, len(solid.sides) - 1):
                self.assertEqual(steps_from(solid, side), rings(other.points, side))
            having = [
                tuple(number for number, side in enumerate(solid.sides) if point in side)
                for point in range(len(solid.points))
            ]
            for point in (0, len(having) // 2):
                wanted = sorted(other.sides.index(having[each]) for each in beside(solid, point))
                self.assertEqual(near(other, other.sides.index(having[point])), tuple(wanted))

    def test_on_a_plane_and_beyond(self):
        for seed, solid in enumerate(few_sided()):
            numbers, by = inside(solid, seed)
            self.assertEqual(turned(solid, numbers, by).dimension, solid.dimension)
            for point in (solid.points[0], solid.points[-1]):
                self.refuses(Misfit, {"part": "point"}, turned, solid, point)
                self.refuses(Misfit, {"part": "point"}, turned, solid, [GREAT * number for number in point], GREAT)
            for side in solid.sides[::5]:
                # The middle of a side, and what is past it.
                sums = [sum(solid.points[at][place] for at in side) for place in range(solid.dimension)]
                self.refuses(Misfit, {"part": "point"}, turned, solid, sums, len(side))
                beyond = [
                    2 * by * number - len(side) * more for number, more in zip(sums, numbers)
                ]
                self.refuses(Misfit, {"part": "point"}, turned, solid, beyond, len(side) * by)

    def test_just_inside(self):
        flat = Solid(FLAT)
        for by in (1, 2, 7, GREAT):
            self.refuses(Misfit, {"part": "point"}, turned, flat, [0, by], by)
            self.refuses(Misfit, {"part": "point"}, turned, flat, [by, 2 * by], by)
            self.refuses(Misfit, {"part": "point"}, turned, flat, [-1, by], by)
            if by > 1:
                self.assertEqual(
                    turned(flat, [1, by], by).points, turned_by_definition(flat, [1, by], by),
                )
                self.assertEqual(len(turned(flat, [by, 2 * by - 1], by).points), 3)

    def test_many_sides(self):
        seen = {True: set(), False: set()}
        for seed, solid in enumerate((*solids(), *(Solid(curve(wide, most)) for wide, most in MOST.items()))):
            numbers, by = inside(solid, seed)
            most = MOST[solid.dimension]
            few = len(solid.sides) <= most
            seen[few].add(solid.dimension)
            if few:
                self.assertEqual(len(turned(solid, numbers, by).points), len(solid.sides))
            else:
                self.refuses(TooMany, {"what": "points", "most": most}, turned, solid, numbers, by)
                # A point that does not lie inside comes ahead.
                self.refuses(Misfit, {"part": "point"}, turned, solid, solid.points[0])
        self.assertEqual(seen, {True: {2, 3, 4, 5, 6}, False: {3, 4, 5, 6}})

    def test_as_many_sides_as_may_be(self):
        # Of dimension three with ten points of no order there are just sixteen sides; one point more, two sides more.
        for many, few in ((10, True), (11, False)):
            solid = Solid(curve(3, many))
            self.assertEqual(len(solid.sides), 2 * many - 4)
            numbers, by = inside(solid, 3)
            if few:
                self.assertEqual(len(turned(solid, numbers, by).points), 16)
            else:
                self.refuses(TooMany, {"what": "points", "most": 16}, turned, solid, numbers, by)
        self.assertEqual(len(turned(Solid(curve(2, 16)), *inside(Solid(curve(2, 16)), 4)).points), 16)

    def test_refused(self):
        cube = Solid(CUBE)
        for value in NO_SOLIDS:
            self.refuses(BadSolid, {"part": "solid"}, turned, value, [1, 1, 1], 2)
            self.refuses(BadSolid, {"part": "solid"}, turned, value, None, None)
        for value in ODD_VALUES + (1, [], [1, 1], [1, 1, 1, 1], [1, 1, True], [1, None, 1], [[1], 1, 1], [1.0, 1, 1]):
            for by in (1, 0, None):
                self.refuses(BadNumber, {"part": "numbers"}, turned, cube, value, by)
        for value in NO_BY:
            self.refuses(BadNumber, {"part": "by"}, turned, cube, [1, 1, 1], value)
            self.refuses(BadNumber, {"part": "by"}, turned, cube, (9, 9, 9), by=value)

    def test_lists_changed_behind_the_call(self):
        cube, numbers = Solid(CUBE), [1, 1, 1]
        told = turned(cube, numbers, 2)
        numbers[0] = 7
        self.assertEqual(told, turned(cube, [1, 1, 1], 2))
        self.assertEqual(cube, Solid(CUBE))


class LongIntegersTest(Case):
    def test_points_that_are_so_many_times_as_large(self):
        # The sides are found from lesser ratios where this is shorter; they are the same, and so are the planes.
        for seed, solid in enumerate(few_sided()[:21]):
            wide = solid.dimension
            for times in noise(seed, 2, 10 ** 300):
                rows = [[(times if one == two else 0) for two in range(wide)] for one in range(wide)]
                far = noise(seed + 5, wide, 10 ** 300)
                for shift in ([0] * wide, far, [times * number for number in far]):
                    points = led(solid.points, rows, shift)
                    told = Solid(points)
                    self.assertEqual(told.sides, solid.sides)
                    for side, (row, number) in zip(told.sides, told.planes):
                        self.assertEqual(gcd(*row), 1)
                        worths = [product(row, point) - number for point in points]
                        self.assertEqual(side, tuple(at for at, worth in enumerate(worths) if worth == 0))
                        self.assertEqual(max(worths), 0)

    def test_flat_ones(self):
        for wide in (2, 3, 4):
            points = [[10 ** 200 * number for number in (*point, 0)] for point in curve(wide, wide + 3)]
            self.assertIsNone(rows_by_side(points))
            points = [[number + 1 for number in point] for point in points]
            self.assertIsNone(rows_by_side(points))

    def test_great_points_of_no_order(self):
        for wide in (2, 3, 4, 5):
            rows = noisy_rows(wide, wide, wide, 10 ** 200)
            points = [*rows, *[[-number for number in row] for row in rows]]
            self.assertEqual(len(Solid(points).sides), 2 ** wide)


if __name__ == "__main__":
    unittest.main()
