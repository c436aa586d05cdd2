"""That answers come in a short time: solids of as many points as may be, with integers of 60 digits."""

import unittest

from spindleway.check_steps import shows_apart, shows_ways
from spindleway.ridges import are_near, near, ridges_of
from spindleway.solids import Solid, moved, side_of
from spindleway.steps import apart, farthest, steps_from
from spindleway.ways import parted, ways
from tests.base import GREAT, TimedCase
from tests.samples import MOST, curve, led, noisy_rows


class TimesTest(TimedCase):
    def ask(self, solid):
        many = len(solid.sides)
        ends = farthest(solid)[:2]
        self.in_time(ridges_of, solid)
        self.assertEqual(self.in_time(side_of, solid, solid.sides[-1]), many - 1)
        self.in_time(farthest, solid)
        self.in_time(lambda: [are_near(solid, one, other) for one in range(many) for other in range(many)])
        self.in_time(lambda: [(near(solid, side), steps_from(solid, side)) for side in range(many)])
        self.in_time(parted, solid, near(solid, 0))
        self.assertTrue(self.in_time(shows_apart, solid, *ends, self.in_time(apart, solid, *ends)))
        self.assertTrue(self.in_time(shows_ways, solid, *ends, self.in_time(ways, solid, *ends)))
        self.assertEqual(self.in_time(Solid.read, self.in_time(str, solid)), solid)

    def test_most_sides(self):
        for wide, most in MOST.items():
            points = curve(wide, most)
            greatest = max(abs(number) for point in points for number in point)
            rows = [[number - GREAT // (2 * wide * greatest) for number in row]
                    for row in noisy_rows(wide, wide, wide, GREAT // (4 * wide * greatest))]
            solid = self.in_time(Solid, led(points, rows, [0] * wide))
            digits = max(len(str(abs(number))) for point in solid.points for number in point)
            self.assertIn(digits, (58, 59, 60))
            self.ask(solid)

    def test_points_of_no_order(self):
        for wide, most in MOST.items():
            # Far out at a corner of a simplex turned about, or near to such points: all of them corners.
            rows = noisy_rows(wide, wide, wide, GREAT)
            points = [*rows, *[[-number for number in row] for row in rows]][:most]
            self.ask(self.in_time(Solid, points))

    def test_moved(self):
        for wide, most in MOST.items():
            self.in_time(moved, Solid(curve(wide, most)), noisy_rows(wide, wide, wide, GREAT), [GREAT] * wide)


if __name__ == "__main__":
    unittest.main()
