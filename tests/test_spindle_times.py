"""That answers come in a short time: spindles of as many points as may be, with integers of 60 digits."""

import unittest

from spindleway.between import between, crossings, parts_of, ring_of
from spindleway.check_long import shows_long
from spindleway.check_overs import shows_over
from spindleway.errors import TooMany
from spindleway.fortyeight import Long
from spindleway.likenesses import Likeness, kinds_of, likenesses_of
from spindleway.middles import middle
from spindleway.overs import led_numbers, lies_over
from spindleway.pulls import is_plain, made_plain, pulled, pulls_of
from spindleway.spindles import Spindle, length_of, shifted, turned_over
from spindleway.steps import Apart, steps_from
from tests.base import GREAT, TimedCase
from tests.samples import cross, noisy_rows
from tests.spindle_samples import MOST_POINTS, ends, great


def digits_of(points):
    return max(len(str(abs(number))) for point in points for number in point)


class TimesTest(TimedCase):
    def ask(self, spindle):
        row = [GREAT] * (spindle.dimension - 1)
        for call in (turned_over, length_of, between, crossings, is_plain, pulls_of, made_plain, str):
            self.in_time(call, spindle)
        self.in_time(shifted, spindle, row, row)
        self.in_time(lambda: [parts_of(spindle, side) for side in range(len(spindle.solid.sides))])
        self.in_time(Spindle.read, str(spindle))
        if spindle.dimension == 3:
            self.in_time(ring_of, spindle)
        if spindle.dimension in (3, 4):
            try:
                self.in_time(middle, spindle)
            except TooMany:
                self.assertGreater(len(crossings(spindle)), 16)
        others = [self.in_time(pulled, spindle, point) for point in range(len(spindle.points))]
        numbers = steps_from(spindle.solid, spindle.top)
        for other in (*others, self.in_time(made_plain, spindle)):
            over = self.in_time(lies_over, spindle, other)
            self.in_time(lies_over, other, spindle)
            self.assertTrue(self.in_time(shows_over, spindle, other, over))
            self.in_time(led_numbers, spindle, other, over, numbers)

    def test_spindles_of_each_dimension(self):
        for seed, points in enumerate(MOST_POINTS):
            greatest = max(abs(number) for point in points for number in point)
            points = great(points, seed, GREAT // (10 * greatest))
            self.assertIn(digits_of(points), (58, 59, 60))
            self.ask(self.in_time(Spindle, points))

    def test_points_of_no_order(self):
        for wide in (3, 4, 5, 6):
            # So few points are corners of their end, whatever they are.
            rows = noisy_rows(wide, 2 * wide, wide - 1, GREAT)
            self.ask(self.in_time(Spindle, ends(rows[:wide], rows[wide:])))

    def test_long(self):
        long = self.in_time(Long)
        numbers = self.in_time(long.numbers)
        walk = self.in_time(long.walk)
        self.in_time(lambda: [long.near(side) for side in range(322)])
        self.assertEqual(len(self.in_time(likenesses_of, long.points, long.given())), 64)
        self.assertEqual(len(self.in_time(kinds_of, long.points, long.given(), long.sides)), 6)
        for more in range(50):
            told = Apart(walk, [number + more for number in numbers])
            self.assertTrue(self.in_time(shows_long, told))

    def test_likenesses(self):
        turns = [Likeness(list(range(6)), [-1 if at == place else 1 for at in range(6)]) for place in range(6)]
        given = [*turns, *[turns[place].then(turns[place - 1]) for place in range(4)]]
        points = [[GREAT * number for number in point] for point in cross(6)]
        self.assertEqual(len(self.in_time(likenesses_of, points, given)), 64)
        lots = [(one, other) for one in range(12) for other in range(one + 1, 12)]
        lots = lots + [(*lot, last) for lot in lots for last in range(lot[1] + 1, 12)]
        self.assertEqual(sum(len(kind) for kind in self.in_time(kinds_of, points, given, lots)), len(lots))


if __name__ == "__main__":
    unittest.main()
