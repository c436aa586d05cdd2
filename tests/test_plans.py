import unittest

from spindleway.errors import BadNumber
from spindleway.lifts import lifts_of, led_through
from spindleway.plans import Plan, plan
from spindleway.spindles import Spindle, length_of
from tests.base import GREAT, ODD_VALUES, Case
from tests.spindle_samples import CROSSED, KITE

NO_NUMBERS = ODD_VALUES + ([], [5], (5,), 5.0, "5")


class PlanTest(Case):
    def test_examples(self):
        self.assertEqual(
            [plan(5, 48, 6).parts, plan(3, 8, 3).parts, plan(length=2, dimension=4, points=9).parts],
            [(43, 86, 44, 1), (5, 10, 5, 0), (5, 10, 3, -2)],
        )
        self.refuses(BadNumber, {"part": "points"}, plan, 3, 5, 3)

    def test_fields(self):
        for made in (Plan([1], 2, "x", None), Plan(above=None, length="x", points=2, dimension=(1,))):
            self.assertEqual((made.dimension, made.points, made.length, made.above), ((1,), 2, "x", None))
            self.assertEqual((made.word, made.parts), ("plan", ((1,), 2, "x", None)))
            self.assertIs(bool(made), True)

    def test_small_and_great(self):
        for dimension in (2, 3, 7, GREAT, 10 ** 400):
            for more in (0, 1, 5, GREAT):
                for length in (2, 3, dimension, dimension + 4, 2 * GREAT):
                    told = plan(dimension, 2 * dimension + more, length)
                    self.assertIs(type(told), Plan)
                    self.assertEqual(
                        told.parts, (dimension + more, 2 * (dimension + more), length + more, length - dimension),
                    )

    def test_a_plan_of_a_plan(self):
        # There are just twice as many points as the dimension then, so nothing is won once more.
        for numbers in ((5, 48, 6), (2, 4, 2), (3, 9, 3), (4, 30, 11)):
            told = plan(*numbers)
            self.assertEqual(plan(told.dimension, told.points, told.length), told)

    def test_what_lifts_lead_to(self):
        for points in (KITE, CROSSED):
            spindle = Spindle(points)
            told = plan(spindle.dimension, len(points), len(length_of(spindle).walk) - 1)
            far = led_through(spindle, lifts_of(spindle))
            self.assertEqual((far.dimension, len(far.points)), (told.dimension, told.points))
            self.assertGreaterEqual(len(length_of(far).walk) - 1, told.length)

    def test_refused(self):
        for value in NO_NUMBERS + (1, 0, -1, -GREAT):
            for points, length in ((9, 3), (None, None), (0, 0)):
                self.refuses(BadNumber, {"part": "dimension"}, plan, value, points, length)
        for value in NO_NUMBERS + (9, 0, -10, -GREAT):
            for length in (3, None, 0):
                self.refuses(BadNumber, {"part": "points"}, plan, 5, value, length)
        for value in NO_NUMBERS + (1, 0, -2, -GREAT):
            self.refuses(BadNumber, {"part": "length"}, plan, 5, 10, value)
        self.assertEqual(plan(2, 4, 2).parts, (2, 4, 2, 0))


if __name__ == "__main__":
    unittest.main()
