from spindleway.between import between, crossings
from spindleway.errors import BadSpindle, Misfit, TooMany
from spindleway.middles import middle
from spindleway.ridges import are_near
from spindleway.solids import Solid
from spindleway.spindles import Spindle
from tests.base import ODD_VALUES, Case
from tests.samples import board, curve
from tests.spindle_samples import FOUR, MOST_POINTS, ROOF, SEVENTEEN, SIXTEEN, SPINDLES, WIDE, ends, great, negated


class MiddleTest(Case):
    def test_examples(self):
        roof, four, wide = Spindle(ROOF), Spindle(FOUR), Spindle(WIDE)
        self.assertEqual(
            [middle(roof).points, middle(roof).sides],
            [((0, 0), (4, 0), (4, 2), (2, 4), (0, 4)), ((0, 1), (0, 4), (1, 2), (2, 3), (3, 4))],
        )
        self.assertEqual(
            [len(middle(four).points), len(middle(four).sides), middle(four).points[:4], middle(four).sides[1]],
            [12, 14, ((-1, 0, 0), (0, -1, 0), (0, 0, -1), (1, 0, 0)), (0, 1, 10, 11)],
        )
        self.assertEqual(len(crossings(wide)), 24)
        self.refuses(TooMany, {"what": "points", "most": 16}, middle, wide)

    def check_middle(self, spindle):
        told = middle(spindle=spindle)
        self.assertIs(type(told), Solid)
        pairs = crossings(spindle)
        self.assertEqual(told.points, tuple(
            tuple(one + two for one, two in zip(spindle.points[upper][:-1], spindle.points[lower][:-1]))
            for upper, lower in pairs
        ))
        numbers = between(spindle)
        # Its sides are the sides between, each as the crossings of which it has both points.
        self.assertEqual(told.sides, tuple(sorted(
            tuple(at for at, pair in enumerate(pairs) if set(pair) <= set(spindle.solid.sides[number]))
            for number in numbers
        )))
        by_lot = {
            tuple(at for at, pair in enumerate(pairs) if set(pair) <= set(spindle.solid.sides[number])): number
            for number in numbers
        }
        for one, side in enumerate(told.sides):
            for other, beyond in enumerate(told.sides):
                near = are_near(spindle.solid, by_lot[side], by_lot[beyond])
                self.assertIs(are_near(told, one, other), near)

    def test_all(self):
        seen = set()
        for seed, points in enumerate(SPINDLES):
            spindle = Spindle(points)
            if spindle.dimension in (3, 4) and len(crossings(spindle)) <= 16:
                seen.add((spindle.dimension, len(crossings(spindle))))
                self.check_middle(spindle)
                self.check_middle(Spindle(points[::-1]))
                self.check_middle(Spindle(great(points, seed, 10 ** 50)))
        self.assertLessEqual({(3, 14), (4, 16)}, seen)

    def test_sixteen_and_seventeen(self):
        self.assertEqual(len(crossings(Spindle(SIXTEEN))), 16)
        self.assertEqual(len(middle(Spindle(SIXTEEN)).points), 16)
        self.assertEqual(len(crossings(Spindle(SEVENTEEN))), 17)
        for points in (SEVENTEEN, WIDE, ends(curve(3, 8), negated(curve(3, 8)))):
            self.assertGreater(len(crossings(Spindle(points))), 16)
            self.refuses(TooMany, {"what": "points", "most": 16}, middle, Spindle(points))
        # As many points as may be, and no more crossings than eight.
        self.assertEqual(len(middle(Spindle(ends(board(3), board(3)))).points), 8)

    def test_dimension_three_has_never_too_many(self):
        for many in range(3, 14):
            spindle = Spindle(ends(curve(2, many), negated(curve(2, 16 - many))))
            self.assertLessEqual(len(crossings(spindle)), 16)
            self.check_middle(spindle)

    def test_other_dimensions(self):
        dimensions = set()
        for points in SPINDLES + MOST_POINTS:
            if len(points[0]) not in (3, 4):
                dimensions.add(len(points[0]))
                # Also where there are more than sixteen crossings.
                self.refuses(Misfit, {"part": "dimension"}, middle, Spindle(points))
        self.assertEqual(dimensions, {2, 5, 6})

    def test_refused(self):
        for value in ODD_VALUES + (3, ROOF, Solid(ROOF), str(Solid(ROOF))):
            self.refuses(BadSpindle, {"part": "spindle"}, middle, value)
