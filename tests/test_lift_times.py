"""The time that lifts take near the bounds, many of them one after another."""

import unittest

from spindleway.check_lifts import shows_lift, shows_well
from spindleway.lifts import least_by, lift_of, lifted, lifts_of, led_through
from spindleway.plans import plan
from spindleway.pulls import is_plain
from spindleway.spindles import Spindle
from spindleway.steps import steps_from
from spindleway.wells import led_up, well
from tests.base import GREAT, ManyCase
from tests.lift_base import plain_ones
from tests.samples import MOST, noise
from tests.spindle_samples import great


def near_the_bounds():
    """Plain spindles of as many points as may be lifted, or but few less, and the same with great integers."""
    found = []
    for seed, spindle in enumerate(plain_ones()):
        most = MOST.get(spindle.dimension + 1, 0) - 1
        if max(most - 2, 2 * spindle.dimension + 1) <= len(spindle.points) <= most:
            greatest = max(abs(number) for point in spindle.points for number in point)
            found.extend([spindle, Spindle(great(spindle.points, seed, max(1, GREAT // (10 * greatest))))])
    return found


def to_chain():
    """Plain spindles of the most points that lifts_of takes, and of one less."""
    return [spindle for spindle in plain_ones() if 0 <= spindle.dimension + 6 - len(spindle.points) <= 1]


class TimesTest(ManyCase):
    def test_near_the_bounds(self):
        spindles = near_the_bounds()
        self.assertEqual({spindle.dimension for spindle in spindles}, {3, 4, 5})
        self.assertGreater(len(spindles), 20)
        found = self.many_in_time(lift_of, [(spindle,) for spindle in spindles] * 3)
        shown = list(zip(spindles * 3, found))
        self.assertTrue(all(self.many_in_time(shows_lift, shown)))
        parts = [(spindle, *lift.parts) for spindle, lift in shown]
        grown = self.many_in_time(lifted, parts)
        self.assertTrue(all(is_plain(each) for each in grown))
        self.assertEqual(self.many_in_time(least_by, [each[:-1] for each in parts]), [each[-1] for each in parts])
        wells = self.many_in_time(well, parts)
        self.assertTrue(all(self.many_in_time(shows_well, [(*each, told) for each, told in zip(parts, wells)])))
        numbers = [steps_from(each[0].solid, each[0].top) for each in parts]
        self.many_in_time(led_up, [(*each, told, row) for each, told, row in zip(parts, wells, numbers)])

    def test_great_heights(self):
        lots = []
        for seed, spindle in enumerate(near_the_bounds()):
            lift = lift_of(spindle)
            lots.append((spindle, lift.point, noise(seed, len(lift.heights), GREAT)))
        for each, least in zip(lots, self.many_in_time(least_by, lots)):
            self.assertTrue(well(*each, least))
        self.many_in_time(well, [(*each, GREAT) for each in lots])

    def test_chains(self):
        spindles = to_chain()
        self.assertEqual({spindle.dimension for spindle in spindles}, {3, 4, 5})
        found = self.many_in_time(lifts_of, [(spindle,) for spindle in spindles] * 5)
        for spindle, grown in zip(spindles, self.many_in_time(led_through, list(zip(spindles * 5, found)))):
            self.assertEqual(len(grown.points), 2 * (len(spindle.points) - spindle.dimension))

    def test_plans(self):
        self.many_in_time(plan, [(GREAT + more, 2 * GREAT + 7 * more, GREAT) for more in range(1000)])


if __name__ == "__main__":
    unittest.main()
