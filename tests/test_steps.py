from spindleway.errors import BadNumber, BadSolid
from spindleway.papers import Denial, Paper
from spindleway.ridges import are_near, ridges_of
from spindleway.solids import Solid
from spindleway.steps import Apart, apart, farthest, steps_from
from tests.base import GREAT, ODD_VALUES, Case, distances
from tests.samples import MOST, RING, SOLIDS, TENT, cross, curve

NO_NUMBERS = ODD_VALUES + ([], [0], (1,), -1, -2, -GREAT, GREAT)
TALL = SOLIDS + tuple(curve(wide, most) for wide, most in MOST.items())


class ApartPaperTest(Case):
    def test_fields(self):
        for made in (Apart([0, [1]], (2, [3])), Apart(numbers=[2, [3]], walk=(0, [1]))):
            self.assertEqual((made.walk, made.numbers), ((0, (1,)), (2, (3,))))
            self.assertEqual((made.word, made.parts), ("apart", ((0, (1,)), (2, (3,)))))
            self.assertIs(bool(made), True)

    def test_any_values(self):
        for value in ODD_VALUES + (7, GREAT):
            made = Apart(value, None)
            self.assertIs(made.walk, value)
            self.assertIs(made.parts[0], value)
            self.assertIs(Apart(None, value).numbers, value)

    def test_class(self):
        self.assertTrue(issubclass(Apart, Paper))
        self.assertFalse(issubclass(Apart, Denial))
        self.assertIs(Apart([0], [1]) == Apart((0,), (1,)), True)
        self.assertIs(Apart([0], [1]) == Apart([0], [2]), False)
        self.assertIs(Apart([0], [1]) == Paper("apart", [0], [1]), False)
        self.assertIs(Paper("apart", [0], [1]) == Apart([0], [1]), False)

    def test_what_is_changed_behind_the_call(self):
        walk = [0, 1]
        made = Apart(walk, walk)
        walk.append(2)
        self.assertEqual(made.parts, ((0, 1), (0, 1)))


class StepsTest(Case):
    def test_examples(self):
        ring, peak = Solid(RING), Solid(TENT)
        self.assertEqual(
            [ring.sides, steps_from(ring, 0), steps_from(ring, side=4), farthest(ring)],
            [((0, 1), (0, 5), (1, 2), (2, 3), (3, 4), (4, 5)), (0, 1, 1, 2, 3, 2), (3, 2, 2, 1, 0, 1), (0, 4, 3)],
        )
        told = apart(ring, 0, 4)
        self.assertEqual(
            [len(told.walk), told.numbers, apart(ring, 0, 5).walk, apart(ring, 3, 3).parts],
            [4, (0, 1, 1, 2, 3, 2), (0, 1, 5), ((3,), (2, 3, 1, 0, 1, 2))],
        )
        self.assertEqual(
            [peak.sides, steps_from(peak, 1), farthest(peak)],
            [((0, 1, 2, 3), (0, 1, 4), (0, 2, 4), (1, 3, 4), (2, 3, 4)), (1, 0, 1, 1, 2), (1, 4, 2)],
        )
        self.refuses(BadNumber, {"part": "side"}, steps_from, ring, 6)

    def check_apart(self, solid, twin, one, other, steps):
        told = apart(solid, one, other)
        self.assertIs(type(told), Apart)
        self.assertEqual((told.walk[0], told.walk[-1], len(told.walk)), (one, other, steps[other] + 1))
        self.assertTrue(all(are_near(solid, *pair) for pair in zip(told.walk, told.walk[1:])))
        self.assertEqual(told.numbers, steps)
        self.assertEqual(told, apart(solid, one, other))
        self.assertEqual(told, apart(twin, one, other))

    def test_solids_of_each_dimension(self):
        for points in SOLIDS:
            solid = Solid(points)
            twin = Solid([list(point) for point in points])
            many = len(solid.sides)
            far = distances(many, [(one, other) for _, one, other in ridges_of(solid)])
            for one in range(many):
                self.assertEqual(steps_from(solid, one), tuple(far[one]))
                for other in range(many):
                    self.check_apart(solid, twin, one, other, tuple(far[one]))

    def test_farthest(self):
        for points in TALL:
            solid = Solid(points)
            many = len(solid.sides)
            rows = [steps_from(solid, one) for one in range(many)]
            most = max(max(row) for row in rows)
            pairs = [(one, other) for one in range(many) for other in range(one + 1, many) if rows[one][other] == most]
            self.assertEqual(farthest(solid), (*pairs[0], most))
            self.assertIs(type(farthest(solid=solid)), tuple)

    def test_distances_that_are_known(self):
        for many in range(3, 17):
            one, other, steps = farthest(Solid(curve(2, many)))
            self.assertEqual(steps, many // 2)
        for wide in range(2, 7):
            # The sides of these are told by signs, and neighbours differ by one sign.
            solid = Solid(cross(wide))
            one, other, steps = farthest(solid)
            self.assertEqual(steps, wide)
            self.assertEqual(set(solid.sides[one]) & set(solid.sides[other]), set())

    def test_by_name(self):
        ring = Solid(RING)
        self.assertEqual(steps_from(side=4, solid=ring), (3, 2, 2, 1, 0, 1))
        self.assertEqual(apart(other=4, one=0, solid=ring), apart(ring, 0, 4))

    def test_refused(self):
        ring = Solid(RING)
        for value in NO_NUMBERS + (6, 7):
            self.refuses(BadNumber, {"part": "side"}, steps_from, ring, value)
            self.refuses(BadNumber, {"part": "one"}, apart, ring, value, 0)
            self.refuses(BadNumber, {"part": "other"}, apart, ring, 0, value)
            self.refuses(BadNumber, {"part": "one"}, apart, ring, value, value)
        for value in ODD_VALUES + (RING, 3):
            self.refuses(BadSolid, {"part": "solid"}, steps_from, value, None)
            self.refuses(BadSolid, {"part": "solid"}, apart, value, None, None)
            self.refuses(BadSolid, {"part": "solid"}, farthest, value)
