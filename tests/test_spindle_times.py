"""That answers come in a short time: spindles of as many points as may be, with integers of 60 digits."""

import unittest

from spindleway.between import between, crossings, parts_of, ring_of
from spindleway.errors import TooMany
from spindleway.middles import middle
from spindleway.overs import led_numbers, lies_over
from spindleway.spindles import Spindle, length_of, shifted, turned_over
from spindleway.steps import steps_from
from tests.base import GREAT, TimedCase
from tests.samples import noisy_rows
from tests.spindle_samples import MOST_POINTS, ends, great


def digits_of(points):
    return max(len(str(abs(number))) for point in points for number in point)


class TimesTest(TimedCase):
    def ask(self, spindle):
        row = [GREAT] * (spindle.dimension - 1)
        for call in (turned_over, length_of, between, crossings, str):
            self.in_time(call, spindle)
        self.in_time(shifted, spindle, row, row)
        self.in_time(lambda: [parts_of(spindle, side) for side in range(len(spindle.solid.sides))])
        self.in_time(Spindle.read, str(spindle))
        if spindle.dimension == 3:
            self.in_time(ring_of, spindle)
        if spindle.dimension in (3, 4):
            try:
                self.in_time(middle, spindle)
            except TooMany:
                self.assertGreater(len(crossings(spindle)), 16)
        numbers = steps_from(spindle.solid, spindle.top)
        over = self.in_time(lies_over, spindle, spindle)
        self.in_time(led_numbers, spindle, spindle, over, numbers)

    def test_spindles_of_each_dimension(self):
        for seed, points in enumerate(MOST_POINTS):
            greatest = max(abs(number) for point in points for number in point)
            points = great(points, seed, GREAT // (10 * greatest))
            self.assertIn(digits_of(points), (58, 59, 60))
            self.ask(self.in_time(Spindle, points))

    def test_points_of_no_order(self):
        for wide in (3, 4, 5, 6):
            # So few points are corners of their end, whatever they are.
            rows = noisy_rows(wide, 2 * wide, wide - 1, GREAT)
            self.ask(self.in_time(Spindle, ends(rows[:wide], rows[wide:])))


if __name__ == "__main__":
    unittest.main()
