from math import gcd

from spindleway.errors import BadLot, BadNumber, BadSolid, Misfit, SolidError, Spare, Twice
from spindleway.solids import Solid, moved, side_of
from tests.base import GREAT, ODD_VALUES, Case, planes_by_minors, product, sides, span
from tests.samples import CUBE, MOST, RING, SOLIDS, TENT, board, cross, curve, led, noise, noisy_rows, simplex

SQUARE = ((0, 0), (2, 0), (0, 2), (2, 2))


class SidesTest(Case):
    def check_sides(self, points):
        solid = Solid(points)
        self.assertEqual(solid.points, tuple(tuple(point) for point in points))
        self.assertEqual(solid.dimension, len(points[0]))
        self.assertEqual(solid.sides, sides(points))
        self.assertEqual(len(solid.planes), len(solid.sides))
        for side, (row, number) in zip(solid.sides, solid.planes):
            self.assertEqual(gcd(*row), 1)
            worths = [product(row, point) - number for point in points]
            self.assertEqual(max(worths), 0)
            self.assertEqual(side, tuple(at for at, worth in enumerate(worths) if worth == 0))

    def test_examples(self):
        tent = Solid([(0, 0, 0), (2, 0, 0), (0, 2, 0), (2, 2, 0), (1, 1, 3)])
        self.assertEqual(
            [tent.dimension, tent.sides], [3, ((0, 1, 2, 3), (0, 1, 4), (0, 2, 4), (1, 3, 4), (2, 3, 4))],
        )
        self.assertEqual(
            tent.planes, (((0, 0, -1), 0), ((0, -3, 1), 0), ((-3, 0, 1), 0), ((3, 0, 1), 6), ((0, 3, 1), 6)),
        )
        self.assertEqual(Solid(points=RING).sides, ((0, 1), (0, 5), (1, 2), (2, 3), (3, 4), (4, 5)))

    def test_solids_of_each_dimension(self):
        for points in SOLIDS:
            self.check_sides(points)
            self.check_sides(points[::-1])

    def test_great_integers(self):
        for seed, points in enumerate(SOLIDS):
            wide = len(points[0])
            self.check_sides(led(points, noisy_rows(seed, wide, wide, 10 ** 55), noise(seed + 50, wide, GREAT)))

    def test_as_many_points_as_may_be(self):
        for wide, most in MOST.items():
            self.check_sides(curve(wide, most))

    def test_as_few_points_as_may_be(self):
        for wide in MOST:
            solid = Solid(simplex(wide))
            self.assertEqual(len(solid.sides), wide + 1)
            self.assertEqual({len(side) for side in solid.sides}, {wide})

    def test_numbers_of_sides_that_are_known(self):
        for wide in range(2, 7):
            self.assertEqual(len(Solid(cross(wide)).sides), 2 ** wide)
        for wide in range(2, 5):
            self.assertEqual(len(Solid(board(wide)).sides), 2 * wide)
        for wide, most, many in ((3, 16, 28), (4, 16, 104), (5, 14, 110), (6, 12, 112)):
            self.assertEqual(len(Solid(curve(wide, most)).sides), many)

    def test_thin_solids(self):
        # All but flat: rounding would lose these sides.
        self.check_sides(((0, 0), (GREAT, 1), (2 * GREAT, 1)))
        self.check_sides(((0, 0), (GREAT, GREAT - 1), (GREAT + 1, GREAT)))
        self.check_sides(((0, 0, 0), (GREAT, 0, 0), (0, GREAT, 0), (GREAT, GREAT, 0), (1, 1, 1)))
        self.check_sides(((0, 0, 0), (GREAT, 0, 0), (0, GREAT, 0), (GREAT, GREAT, -1)))

    def test_attributes_are_tuples(self):
        solid = Solid([list(point) for point in TENT])
        for value in (solid.points, solid.sides, solid.planes, *solid.points, *solid.sides, *solid.planes):
            self.assertIs(type(value), tuple)
        for row, _ in solid.planes:
            self.assertIs(type(row), tuple)

    def test_what_is_changed_behind_the_call(self):
        points = [list(point) for point in TENT]
        solid = Solid(points)
        points[0][0] = 7
        points.pop()
        self.assertEqual(solid.points, TENT)
        self.assertEqual(solid, Solid(TENT))


class EqualityTest(Case):
    def test_equal(self):
        for points in (TENT, RING):
            self.assertIs(Solid(points) == Solid([list(point) for point in points]), True)
            self.assertIs(Solid(points) != Solid(points), False)

    def test_unequal(self):
        others = [Solid(points) for points in (TENT[::-1], TENT[:4] + ((1, 1, 4),), CUBE, RING)]
        for other in (*others, TENT, None, str(Solid(TENT)), 0):
            self.assertIs(Solid(TENT) == other, False)
            self.assertIs(other == Solid(TENT), False)
            self.assertIs(Solid(TENT) != other, True)


class RefusedPointsTest(Case):
    def bad(self, points):
        self.refuses(BadSolid, {"part": "points"}, Solid, points)

    def test_no_list_of_points(self):
        for value in ODD_VALUES + (
            5, [], (), [[]], [()], [1, 2, 3], (1,), [[[1, 2], [3, 4], [5, 6]]], ["ab", "cd", "ef"],
        ):
            self.bad(value)

    def test_a_value_of_another_kind_at_any_place(self):
        for at in range(len(TENT)):
            for value in ODD_VALUES + (7,):
                self.bad([*TENT[:at], value, *TENT[at + 1:]])
            for place in range(3):
                for value in ODD_VALUES + ([], [1]):
                    point = [*TENT[at][:place], value, *TENT[at][place + 1:]]
                    self.bad([*TENT[:at], point, *TENT[at + 1:]])

    def test_wrong_or_unlike_width(self):
        for wide in (0, 1, 7, 8):
            self.bad([[int(place == at) for place in range(wide)] for at in range(-1, wide)])
            self.bad([[at] * wide for at in range(10)])
        for at in range(len(TENT)):
            self.bad([*TENT[:at], (*TENT[at], 0), *TENT[at + 1:]])
            self.bad([*TENT[:at], TENT[at][:2], *TENT[at + 1:]])

    def test_too_few_or_too_many(self):
        for wide, most in MOST.items():
            for many in range(1, wide + 1):
                self.bad(simplex(wide)[:many])
            self.bad(curve(wide, most + 1))
            self.bad([[0] * wide] * (most + 1))
            self.bad([[0] * wide] * wide)

    def test_twice(self):
        for points, value in (
            ([[0, 0], [1, 0], [0, 0]], (0, 0)),
            (((0, 0), (1, 0), (1, 0), (0, 0)), (1, 0)),
            (((0, 0), (1, 0), (2, 0), (5, 5), (2, 0), (0, 0)), (2, 0)),
            ([[0] * 6] * 12, (0,) * 6),
            ([*TENT, list(TENT[2])], TENT[2]),
            ([(GREAT, 0), (0, GREAT), (-GREAT, 0), [GREAT, 0]], (GREAT, 0)),
        ):
            self.refuses(Twice, {"value": value}, Solid, points)

    def test_twice_keeps_a_tuple(self):
        for point in ((0, 0), [0, 0]):
            with self.assertRaises(Twice) as caught:
                Solid([[0, 0], (1, 0), (0, 1), point])
            self.assertIs(type(caught.exception.value), tuple)

    def test_flat(self):
        for points in (
            [[0, 0], [1, 0], [2, 0]], [(0, 0), (GREAT, GREAT), (1, 1), (-5, -5)], TENT[:4], board(3)[:4],
            [(at, at * at, 2 * at + 3) for at in range(8)], [(*point, 1) for point in cross(5)],
            [(at, at * at, at ** 3, at ** 4, 0, 7) for at in range(12)],
        ):
            self.refuses(BadSolid, {"part": "flat"}, Solid, points)

    def test_spare(self):
        for points, value in (
            ([(0, 0), (2, 0), (0, 2), (1, 1)], (1, 1)),
            ([(1, 1), (0, 0), (2, 0), (0, 2)], (1, 1)),
            ([(0, 0), (3, 0), (0, 3), (1, 1)], (1, 1)),
            ([(0, 0), (4, 0), (0, 4), (2, 0), (1, 1), (0, 2)], (2, 0)),
            ([(0, 0), (4, 0), (0, 4), (1, 1), (0, 2), (2, 0)], (1, 1)),
            ([*TENT, (1, 1, 0)], (1, 1, 0)),
            ([*TENT, (1, 0, 0)], (1, 0, 0)),
            ([*TENT[:4], (1, 1, 1), TENT[4]], (1, 1, 1)),
            ([list(point) for point in CUBE] + [[0, 0, 2]], (0, 0, 1)),
            ([(0, 0), (2 * GREAT, 2), (0, 2), (GREAT, 1)], (GREAT, 1)),
        ):
            self.refuses(Spare, {"value": value}, Solid, points)

    def test_spare_in_each_dimension(self):
        for wide in MOST:
            points = [[2 * number for number in point] for point in cross(wide)][:MOST[wide] - 1]
            self.refuses(Spare, {"value": (0,) * wide}, Solid, [*points, [0] * wide])
            # Halfway between two that are beside one another.
            middle = tuple([1, 1] + [0] * (wide - 2))
            self.refuses(Spare, {"value": middle}, Solid, [middle, *points])

    def in_hull_of_others(self, points, point):
        """Whether a point of some that span all dimensions lies in the hull of the others."""
        others = [other for other in points if other != point]
        if span(others) < len(point):
            return False
        return all(
            product(row, point) <= number
            for row, number in planes_by_minors(others)
        )

    def test_spare_among_points_of_no_order(self):
        spare = 0
        for seed in range(150):
            wide = 2 + seed % 3
            points = sorted({tuple(row) for row in noisy_rows(seed, wide + 2 + seed % 4, wide, 2 + seed % 3)})
            points = points[seed % len(points):] + points[:seed % len(points)]
            if len(points) <= wide or span(points) < wide:
                continue
            told = [point for point in points if self.in_hull_of_others(points, point)]
            if told:
                spare += 1
                self.refuses(Spare, {"value": told[0]}, Solid, points)
            else:
                self.assertEqual(Solid(points).sides, sides(points))
        self.assertGreater(spare, 30)
        self.assertLess(spare, 120)

    def test_spare_keeps_a_tuple(self):
        for point in ((1, 1), [1, 1]):
            with self.assertRaises(Spare) as caught:
                Solid([[0, 0], [2, 0], point, [0, 2]])
            self.assertIs(type(caught.exception.value), tuple)

    def test_order(self):
        # More points than may be, a point twice, flat, and one that is no corner: each hides what comes behind it.
        self.bad([(0, 0)] * 17)
        self.bad([(0, 0), (0, 0), (1, 0), (True, 0)])
        self.refuses(Twice, {"value": (1, 0)}, Solid, [(0, 0), (1, 0), (2, 0), (1, 0)])
        self.refuses(Twice, {"value": (4, 0)}, Solid, [(0, 0), (4, 0), (0, 4), (1, 1), (4, 0)])
        self.refuses(BadSolid, {"part": "flat"}, Solid, [(0, 0), (1, 0), (2, 0), (3, 0)])


class SideOfTest(Case):
    def test_example(self):
        tent = Solid(TENT)
        self.assertEqual([side_of(tent, [0, 2, 4]), side_of(tent, (0, 1))], [2, None])

    def test_every_side(self):
        for points in SOLIDS:
            solid = Solid(points)
            for number, side in enumerate(solid.sides):
                self.assertEqual(side_of(solid, side), number)
                self.assertEqual(side_of(lot=list(side), solid=solid), number)
                self.assertIsNone(side_of(solid, side[:-1]))
            self.assertIsNone(side_of(solid, []))
            self.assertIsNone(side_of(solid, list(range(len(points)))))

    def test_refused(self):
        tent = Solid(TENT)
        for value in ODD_VALUES + (
            0, [True], [0, None], [0, "1"], [[0]], [5], [0, 5], [-1], [-1, 0], [2, 0, 4], [0, 0, 2], [0, 2, 4, 4],
            [0, GREAT],
        ):
            self.refuses(BadLot, {"part": "lot"}, side_of, tent, value)

    def test_the_solid_first(self):
        for value in ODD_VALUES + (3, TENT, list(TENT)):
            self.refuses(BadSolid, {"part": "solid"}, side_of, value, [0])
            self.refuses(BadSolid, {"part": "solid"}, side_of, value, None)


class MovedTest(Case):
    def test_example(self):
        self.assertEqual(
            moved(Solid([(0, 0), (2, 0), (0, 2)]), [[0, 1], [2, 0]], (5, -1)).points, ((5, -1), (5, 3), (7, -1)),
        )

    def test_the_sides_stay(self):
        for seed, points in enumerate(SOLIDS):
            solid = Solid(points)
            wide = solid.dimension
            for most in (3, GREAT):
                rows, shift = noisy_rows(seed, wide, wide, most), noise(seed + 9, wide, most)
                try:
                    told = moved(solid, rows, shift)
                except Misfit:
                    self.assertEqual(most, 3)
                    continue
                self.assertEqual(told, Solid(led(points, rows, shift)))
                self.assertEqual(told.sides, solid.sides)

    def test_lists_and_tuples(self):
        solid = Solid(SQUARE)
        told = moved(solid, [[1, 1], [0, 1]], [3, 4])
        self.assertEqual(told, moved(shift=(3, 4), rows=((1, 1), (0, 1)), solid=solid))
        self.assertEqual(solid, Solid(SQUARE))
        self.assertEqual(told.points, ((3, 4), (5, 4), (5, 6), (7, 6)))

    def test_rows_refused(self):
        refused = (BadNumber, {"part": "rows"}, moved, Solid(SQUARE))
        for rows in ODD_VALUES + (
            1, [], [[]], [[1, 0]], [[1, 0], [0, 1], [1, 1]], [[1, 0, 0], [0, 1, 0]], [[1], [0]], [[1, 0], [0]],
            [[1, 0], [0, 1, 1]], [[1, 0], [0, True]], [[None, 0], [0, 1]], [[1, 0], "01"], [[1, 0], 1], [1, 0],
            [[1, 0], [0, [1]]], [[1, 0.0], [0, 1]],
        ):
            self.refuses(*refused, rows, (0, 0))
            # The rows come wholly ahead of the shift.
            self.refuses(*refused, rows, None)

    def test_shift_refused(self):
        for shift in ODD_VALUES + (0, [], [0], [0, 0, 0], [0, True], [0, None], ["0", 0], [[0], 0], (0, 1.0)):
            for rows in ([[1, 0], [0, 1]], [[1, 1], [2, 2]]):
                self.refuses(BadNumber, {"part": "shift"}, moved, Solid(SQUARE), rows, shift)

    def test_misfit(self):
        for rows in ([[0, 0], [0, 0]], [[1, 2], [2, 4]], [[GREAT, GREAT], [GREAT, GREAT]], ((0, 1), (0, 5))):
            self.refuses(Misfit, {"part": "rows"}, moved, Solid(SQUARE), rows, (0, 0))
        self.refuses(Misfit, {"part": "rows"}, moved, Solid(TENT), [[1, 2, 3], [4, 5, 6], [7, 8, 9]], [0, 0, 0])

    def test_the_solid_first(self):
        for value in ODD_VALUES + (SQUARE,):
            self.refuses(BadSolid, {"part": "solid"}, moved, value, None, None)
            self.refuses(BadSolid, {"part": "solid"}, moved, value, [[1, 0], [0, 1]], (0, 0))

    def test_errors_are_of_the_package(self):
        with self.assertRaises(SolidError):
            moved(None, None, None)
