import unittest

from spindleway import errors
from spindleway.errors import Misfit, TooMany
from spindleway.lifts import least_by, lifted
from spindleway.pulls import is_plain
from spindleway.spindles import Spindle, length_of
from tests.base import GREAT, Case
from tests.lift_base import (
    can_be_lifted, drawn, least_by_trial, lies_well, lifted_by_definition, plain_ones, refused_lifts, some_heights,
    spindles, will_do,
)
from tests.samples import noise
from tests.spindle_samples import CROSSED, FLAT, FOUR, KITE, NINE, ROOF, ends


class LiftedTest(Case):
    def test_examples(self):
        kite = Spindle(KITE)
        self.assertEqual(
            [kite.solid.sides, is_plain(kite), len(length_of(kite).walk) - 1],
            [((0, 1, 2), (0, 1, 6), (0, 2, 5), (0, 5, 6), (1, 2, 3), (1, 3, 6), (2, 3, 4), (2, 4, 5), (3, 4, 5, 6)),
             True, 3],
        )
        grown = lifted(kite, 0, [0, 0, 0, 1], 2)
        self.assertEqual(
            [str(grown), grown.upper, grown.lower, len(grown.solid.sides), grown.top, grown.bottom],
            ["0 0 2 1 / 1 0 0 1 / 0 1 0 1 / 2 1 0 -1 / -1 2 0 -1 / -2 -1 0 -1 / 1 -2 1 -1 / 0 0 -2 1", (0, 1, 2, 7),
             (3, 4, 5, 6), 17, 1, 14],
        )
        self.assertEqual(
            [grown.solid.sides[:4], is_plain(grown), len(length_of(grown).walk) - 1],
            [((0, 1, 2, 3), (0, 1, 2, 7), (0, 1, 3, 6), (0, 1, 6, 7)), True, 4],
        )
        self.refuses(Misfit, {"part": "heights"}, lifted, kite, 0, [1, 1, 1, 1], 2)

    def test_each_point(self):
        seen = {3: 0, 4: 0, 5: 0}
        for seed, spindle in enumerate(spindles()):
            for point in range(len(spindle.points)):
                for heights in some_heights(spindle, point, seed + point):
                    by = (1, 3, GREAT, 10 ** 400)[seen[spindle.dimension] % 4]
                    told = lifted(spindle=spindle, point=point, heights=heights, by=by)
                    self.assertIs(type(told), Spindle)
                    self.assertEqual(told.points, lifted_by_definition(spindle, point, heights, by))
                    self.check_ends(spindle, point, told)
                    seen[spindle.dimension] += 1
        self.assertGreater(min(seen.values()), 40)

    def check_ends(self, spindle, point, told):
        self.assertEqual(told.dimension, spindle.dimension + 1)
        many = len(spindle.points)
        self.assertEqual(len(told.points), many + 1)
        self.assertEqual(told.points[point][:-2], told.points[many][:-2])
        self.assertEqual(told.points[point][-2], -told.points[many][-2])
        if point in spindle.upper:
            self.assertEqual((told.upper, told.lower), ((*spindle.upper, many), spindle.lower))
        else:
            self.assertEqual((told.upper, told.lower), (spindle.upper, (*spindle.lower, many)))

    def test_heights_that_will_not_do(self):
        seen = {True: 0, False: 0}
        for seed, spindle in enumerate(spindles()):
            for point in range(0, len(spindle.points), 3):
                many = len(drawn(spindle, point))
                # Straight ones, worths of a row, and such with one that is greater by one.
                row = noise(seed + point, spindle.dimension, 50)
                straight = [
                    sum(one * two for one, two in zip(row, spindle.points[at])) for at in drawn(spindle, point)
                ]
                for at in range(many):
                    bent = [*straight[:at], straight[at] + 1, *straight[at + 1:]]
                    right = will_do(spindle, point, bent)
                    seen[right] += 1
                    if right:
                        self.assertEqual(lifted(spindle, point, bent, 1).dimension, spindle.dimension + 1)
                    else:
                        self.refuses(Misfit, {"part": "heights"}, lifted, spindle, point, bent, 1)
                self.refuses(Misfit, {"part": "heights"}, lifted, spindle, point, straight, 1)
        self.assertGreater(min(seen.values()), 30)

    def test_dimension_two(self):
        flat = Spindle(ends(*FLAT))
        for point in range(4):
            for heights in ([0, 0], [0, 1], [GREAT, -GREAT]):
                for by in (1, GREAT):
                    self.refuses(Misfit, {"part": "heights"}, lifted, flat, point, heights, by)

    def test_as_many_points_as_may_be(self):
        seen = set()
        for spindle in spindles():
            grown = spindle
            while can_be_lifted(grown):
                point = grown.lower[0] if len(grown.upper) > grown.dimension else grown.upper[0]
                heights = next(iter(some_heights(grown, point, 5)), None)
                if heights is None:
                    break
                grown = lifted(grown, point, heights, 1)
            if grown.dimension < 6 and not can_be_lifted(grown):
                most = {3: 16, 4: 14, 5: 12}[grown.dimension]
                heights = [at * at for at in range(len(drawn(grown, 0)))]
                self.refuses(TooMany, {"what": "points", "most": most}, lifted, grown, 0, heights, 1)
                seen.add(grown.dimension)
            if grown.dimension == 6:
                heights = [at * at for at in range(len(drawn(grown, 0)))]
                self.refuses(Misfit, {"part": "dimension"}, lifted, grown, 0, heights, 1)
                seen.add(6)
        self.assertLessEqual({5, 6}, seen)

    def test_refused(self):
        for name, fields, values in refused_lifts():
            self.refuses(getattr(errors, name), fields, lifted, *values)

    def test_lists_changed_behind_the_call(self):
        kite, heights = Spindle(KITE), [0, 0, 0, 1]
        told = lifted(kite, 0, heights, 2)
        heights[0] = 5
        self.assertEqual(told.points, lifted_by_definition(kite, 0, (0, 0, 0, 1), 2))
        self.assertEqual(told, lifted(kite, 0, (0, 0, 0, 1), 2))
        self.assertEqual(kite, Spindle(KITE))


class LeastByTest(Case):
    def test_examples(self):
        kite = Spindle(KITE)
        self.assertEqual(
            [least_by(kite, 0, [0, 0, 0, 1]), least_by(kite, 0, [0, 1, 4, 9]), least_by(kite, 0, (0, 0, 0, 10 ** 6))],
            [1, 3, 300001],
        )

    def test_by_trial(self):
        seen = {3: 0, 4: 0, 5: 0}
        greatest = 0
        for seed, spindle in enumerate(plain_ones()):
            if not can_be_lifted(spindle):
                continue
            for point in {seed % len(spindle.points), -1 - seed % 3 + len(spindle.points)}:
                for heights in some_heights(spindle, point, seed)[seed % 2::2]:
                    told = least_by(spindle=spindle, point=point, heights=heights)
                    self.check_least(spindle, point, heights, told)
                    seen[spindle.dimension] += 1
                    greatest = max(greatest, told)
        self.assertGreater(min(seen.values()), 15)
        self.assertGreater(greatest, 10 ** 50)

    def check_least(self, spindle, point, heights, told):
        self.assertGreaterEqual(told, 1)
        for by in (told, told + 1, 2 * told + 5, told * GREAT):
            self.assertTrue(lies_well(spindle, point, heights, by))
        if told > 1:
            for by in (told - 1, (told + 1) // 2, 1):
                self.assertFalse(lies_well(spindle, point, heights, by))

    def test_all_points_of_small_ones(self):
        for points in (KITE, CROSSED, FOUR):
            spindle = Spindle(points)
            for point in range(len(points)):
                for heights in some_heights(spindle, point, point)[:4]:
                    self.assertEqual(least_by(spindle, point, heights), least_by_trial(spindle, point, heights))

    def test_heights_times_an_integer(self):
        for points in (KITE, CROSSED):
            spindle = Spindle(points)
            for point in range(len(points)):
                for heights in some_heights(spindle, point, point):
                    least = least_by(spindle, point, heights)
                    # With the other sign the copies change places.
                    self.assertEqual(least_by(spindle, point, [-height for height in heights]), least)
                    for times in (2, 3, 10 ** 30):
                        told = least_by(spindle, point, [times * height for height in heights])
                        self.assertLessEqual(told, times * least)
                        self.assertGreaterEqual(told, times * (least - 1) + 1)

    def test_heights_all_moved(self):
        # What is added to all heights changes what is needed, as others stay at 0.
        kite = Spindle(KITE)
        for more in (0, 1, -3, 1000, -GREAT):
            heights = [more, more, more, more + 1]
            told = least_by(kite, 0, heights)
            self.assertTrue(lies_well(kite, 0, heights, told))
            self.assertTrue(told == 1 or not lies_well(kite, 0, heights, told - 1))

    def test_refused(self):
        for name, fields, (spindle, point, heights, by) in refused_lifts():
            if fields != {"part": "by"}:
                self.refuses(getattr(errors, name), fields, least_by, spindle, point, heights)

    def test_not_plain(self):
        for points, point, heights in ((NINE, 1, [0, 1, 0, 0, 0]), (ROOF, 0, [0, 0, 0, 1])):
            spindle = Spindle(points)
            self.refuses(Misfit, {"part": "plain"}, least_by, spindle, point, heights)
            # The heights come ahead.
            self.refuses(Misfit, {"part": "heights"}, least_by, spindle, point, [0] * len(heights))
            self.assertEqual(lifted(spindle, point, heights, 1).dimension, spindle.dimension + 1)


if __name__ == "__main__":
    unittest.main()
