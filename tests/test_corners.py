import unittest

from spindleway.corners import Path, beside, path
from spindleway.errors import BadNumber, BadSolid
from spindleway.papers import Denial, Paper
from spindleway.solids import Solid
from tests.base import ODD_VALUES, Case
from tests.corner_base import NO_NUMBERS, NO_SOLIDS, is_numbering, is_path, lanes, rings, solids
from tests.samples import CUBE, MOST, TENT, cross, curve


class PathPaperTest(Case):
    def test_fields(self):
        for made in (Path([0, [1]], {}), Path(numbers={}, points=(0, (1,)))):
            self.assertEqual((made.points, made.numbers, made.word), ((0, (1,)), {}, "path"))
            self.assertEqual(made.parts, ((0, (1,)), {}))
            self.assertIs(bool(made), True)
        for value in ODD_VALUES + (7,):
            self.assertIs(Path(value, None).points, value)
            self.assertIs(Path(None, value).numbers, value)
        self.assertTrue(issubclass(Path, Paper))
        self.assertFalse(issubclass(Path, Denial))


class BesideTest(Case):
    def test_examples(self):
        cube, tent = Solid(CUBE), Solid(TENT)
        self.assertEqual(
            [beside(cube, 0), beside(tent, 0), beside(tent, 4), path(tent, 1, 1).points],
            [(1, 2, 4), (1, 2, 4), (0, 1, 2, 3), (1,)],
        )
        self.assertEqual(
            [len(path(cube, 0, 7).points), len(path(tent, 1, 2).points), path(tent, 1, 4).points], [4, 3, (1, 4)],
        )
        self.refuses(BadNumber, {"part": "point"}, beside, cube, 8)

    def test_by_definition(self):
        for solid in solids():
            for point in range(len(solid.points)):
                told = beside(solid=solid, point=point)
                self.assertIs(type(told), tuple)
                self.assertEqual(told, lanes(solid.points)[point])
                # As many as the dimension, at least.
                self.assertGreaterEqual(len(told), solid.dimension)

    def test_known_ones(self):
        # In dimension two the points stand in a ring; of a simplex, and of many a curve, any two are beside.
        for wide, most in MOST.items():
            solid = Solid(curve(wide, most))
            for point in range(most):
                if wide >= 4:
                    self.assertEqual(beside(solid, point), tuple(at for at in range(most) if at != point))
                elif wide == 2:
                    self.assertEqual(beside(solid, point), tuple(sorted({(point - 1) % most, (point + 1) % most})))
            crossed = Solid(cross(wide))
            self.assertEqual(beside(crossed, 0), tuple(range(2, 2 * wide)))

    def test_refused(self):
        cube = Solid(CUBE)
        for value in NO_NUMBERS + (8, 9, -8):
            self.refuses(BadNumber, {"part": "point"}, beside, cube, value)
        for value in NO_SOLIDS:
            for point in (0, None):
                self.refuses(BadSolid, {"part": "solid"}, beside, value, point)


class PathTest(Case):
    def test_all_pairs(self):
        for solid in solids():
            for one in range(len(solid.points)):
                for other in range(len(solid.points)):
                    told = path(solid=solid, one=one, other=other)
                    self.check_path(solid.points, one, other, told)

    def check_path(self, points, one, other, told):
        self.assertIs(type(told), Path)
        self.assertIs(type(told.points), tuple)
        self.assertEqual((told.points[0], told.points[-1]), (one, other))
        self.assertTrue(is_path(points, told.points))
        self.assertTrue(is_numbering(points, told.numbers))
        steps = len(told.points) - 1
        self.assertEqual(told.numbers[other] - told.numbers[one], steps)
        self.assertEqual(steps, rings(points, one)[other])

    def test_equal_calls_return_equal_papers(self):
        one, other = Solid(CUBE), Solid([list(point) for point in CUBE])
        for point in range(8):
            self.assertEqual(path(one, 0, point), path(other, 0, point))

    def test_refused(self):
        cube = Solid(CUBE)
        for value in NO_NUMBERS + (8, 9, -8):
            self.refuses(BadNumber, {"part": "one"}, path, cube, value, 0)
            self.refuses(BadNumber, {"part": "one"}, path, cube, value, value)
            self.refuses(BadNumber, {"part": "other"}, path, cube, 0, value)
        for value in NO_SOLIDS:
            self.refuses(BadSolid, {"part": "solid"}, path, value, 0, 0)
            self.refuses(BadSolid, {"part": "solid"}, path, value, None, None)


if __name__ == "__main__":
    unittest.main()
