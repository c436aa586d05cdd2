from spindleway.errors import BadNumber, BadSolid, Spare
from spindleway.ridges import are_near, near, ridges_of
from spindleway.solids import Solid
from tests.base import GREAT, ODD_VALUES, Case, ridges
from tests.samples import MOST, SOLIDS, SQUARES, TENT, curve, led, noise, noisy_rows
from tests.spindle_samples import SPINDLES

NO_NUMBERS = ODD_VALUES + ([], [0], (1,), -1, -2, -GREAT, GREAT)


class RidgesTest(Case):
    def test_examples(self):
        tent = Solid(TENT)
        self.assertEqual(
            ridges_of(tent),
            (((0, 1), 0, 1), ((0, 2), 0, 2), ((0, 4), 1, 2), ((1, 3), 0, 3), ((1, 4), 1, 3), ((2, 3), 0, 4),
             ((2, 4), 2, 4), ((3, 4), 3, 4)),
        )
        self.assertEqual(
            [near(tent, 1), are_near(tent, 1, 2), are_near(tent, 1, 4), are_near(tent, 2, 2),
             near(Solid([(0, 0), (2, 0), (0, 2)]), 0)],
            [(0, 2, 3), True, False, False, (1, 2)],
        )
        self.refuses(BadNumber, {"part": "side"}, near, tent, 5)

    def check_ridges(self, points):
        """That all three agree, and with the definition."""
        solid = Solid(points)
        told = ridges_of(solid)
        self.assertEqual(told, ridges(points, solid.sides))
        pairs = {(one, other) for _, one, other in told}
        self.assertEqual(len(pairs), len(told))
        many = len(solid.sides)
        for one in range(many):
            beside = tuple(other for other in range(many) if (min(one, other), max(one, other)) in pairs)
            self.assertEqual(near(solid, one), beside)
            self.assertGreaterEqual(len(beside), solid.dimension)
            self.assertIs(are_near(solid, one, one), False)
            for other in range(many):
                self.assertIs(are_near(solid, one, other), other in beside)

    def test_solids_of_each_dimension(self):
        for seed, points in enumerate(SOLIDS):
            self.check_ridges(points)
            wide = len(points[0])
            self.check_ridges(led(points, noisy_rows(seed, wide, wide, 10 ** 55), noise(seed + 50, wide, GREAT)))

    def test_as_many_points_as_may_be(self):
        for wide, most in MOST.items():
            self.check_ridges(curve(wide, most))

    def test_one_point_moved_a_little(self):
        moved = 0
        for seed, points in enumerate(SOLIDS + (SQUARES,) * 12 + SPINDLES):
            wide = len(points[0])
            at, place = seed % len(points), seed // 3 % wide
            for more in (1, -1):
                large = [[50 * number for number in point] for point in points]
                large[at][place] += more
                try:
                    Solid(large)
                except Spare:
                    continue
                moved += 1
                self.check_ridges(large)
        self.assertGreater(moved, 60)

    def test_what_is_no_ridge(self):
        # The sides (0, 1, 4) and (2, 3, 4) share a point; all four sides about it do.
        self.assertIs(are_near(Solid(TENT), 1, 4), False)
        self.assertIs(are_near(Solid(TENT), 4, 1), False)
        # As many points in common as a ridge has at least, but all on one plane of dimension two.
        squares = Solid(SQUARES)
        pairs = [
            (one, other)
            for one in range(len(squares.sides))
            for other in range(one)
            if set(squares.sides[one]) & set(squares.sides[other]) == {0, 1, 2, 3}
        ]
        self.assertEqual(len(pairs), 2)
        for one, other in pairs:
            self.assertIs(are_near(squares, one, other), False)
            self.assertNotIn(one, near(squares, other))
        self.assertNotIn((0, 1, 2, 3), [lot for lot, _, _ in ridges_of(squares)])

    def test_by_name(self):
        tent = Solid(TENT)
        self.assertEqual(ridges_of(solid=tent), ridges_of(tent))
        self.assertEqual(near(side=1, solid=tent), (0, 2, 3))
        self.assertIs(are_near(other=2, one=1, solid=tent), True)

    def test_tuples(self):
        tent = Solid(TENT)
        for value in (ridges_of(tent), *ridges_of(tent), *[lot for lot, _, _ in ridges_of(tent)], near(tent, 0)):
            self.assertIs(type(value), tuple)

    def test_refused(self):
        tent = Solid(TENT)
        for value in NO_NUMBERS + (5, 6):
            self.refuses(BadNumber, {"part": "side"}, near, tent, value)
            self.refuses(BadNumber, {"part": "one"}, are_near, tent, value, 0)
            self.refuses(BadNumber, {"part": "other"}, are_near, tent, 0, value)
            self.refuses(BadNumber, {"part": "one"}, are_near, tent, value, value)
        for value in ODD_VALUES + (TENT, 3):
            self.refuses(BadSolid, {"part": "solid"}, ridges_of, value)
            self.refuses(BadSolid, {"part": "solid"}, near, value, None)
            self.refuses(BadSolid, {"part": "solid"}, are_near, value, None, None)
