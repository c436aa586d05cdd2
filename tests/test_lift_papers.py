import unittest
from functools import cache

from spindleway import errors
from spindleway.check_lifts import shows_lift
from spindleway.errors import BadPaper, BadSpindle, Misfit, SolidError, TooMany
from spindleway.lifts import Lift, least_by, lift_of, lifted, lifts_of, led_through
from spindleway.papers import Denial, Paper
from spindleway.pulls import is_plain, made_plain
from spindleway.spindles import Spindle, length_of, turned_over
from tests.base import GREAT, ODD_VALUES, Case
from tests.lift_base import (
    NO_SPINDLES, can_be_lifted, drawn, lies_well, lifted_by_definition, plain_ones, refused_lifts, some_heights,
    spindles,
)
from tests.samples import curve
from tests.spindle_samples import CROSSED, EDGES, FLAT, FOUR, KITE, NINE, PRISM, ROOF, TURNED_ONE, ends, negated


class LikeLift(Lift):
    pass


def due_point(spindle):
    """The point over which a Lift must be."""
    return spindle.lower[0] if len(spindle.upper) > spindle.dimension else spindle.upper[0]


@cache
def to_lift():
    """Plain spindles of more points than twice their dimension, that are not too many."""
    found = [spindle for spindle in plain_ones() if len(spindle.points) > 2 * spindle.dimension]
    found = found + [turned_over(spindle) for spindle in found[::4]]
    return [spindle for spindle in found if can_be_lifted(spindle)]


def is_right(spindle, point, heights, by):
    """Whether a Lift of these is right, by its definition."""
    try:
        grown = Spindle(lifted_by_definition(spindle, point, heights, by))
    except SolidError:
        return False
    return point == due_point(spindle) and lies_well(spindle, point, heights, by) and is_plain(grown)


def refused_spindles():
    """What lift_of and shows_lift refuse, in the order of the errors, with the class and the fields."""
    for value in NO_SPINDLES:
        yield BadSpindle, {"part": "spindle"}, value
    six = ends(curve(5, 6), negated(curve(5, 6)))
    for points in (PRISM, ROOF, NINE, EDGES, ends(curve(2, 8), curve(2, 8)), ends(curve(5, 6), curve(5, 6))):
        yield Misfit, {"part": "plain"}, Spindle(points)
    for points in (TURNED_ONE, FOUR, six, ends(*FLAT)):
        yield Misfit, {"part": "points"}, made_plain(Spindle(points))
    for upper, lower, most in ((8, 8, 16), (3, 13, 16), (13, 3, 16)):
        yield TooMany, {"what": "points", "most": most}, made_plain(Spindle(ends(curve(2, upper), curve(2, lower))))
    for wide, upper, lower, most in ((3, 7, 7, 14), (3, 4, 12, 14), (3, 12, 4, 14), (4, 6, 6, 12), (4, 5, 9, 12)):
        points = ends(curve(wide, upper), negated(curve(wide, lower)))
        yield TooMany, {"what": "points", "most": most}, made_plain(Spindle(points))


class LiftTest(Case):
    def test_fields(self):
        for made in (Lift([1], [0, [1]], {}), Lift(by={}, heights=(0, (1,)), point=(1,))):
            self.assertEqual((made.point, made.heights, made.by, made.word), ((1,), (0, (1,)), {}, "lift"))
            self.assertEqual(made.parts, ((1,), (0, (1,)), {}))
            self.assertIs(bool(made), True)

    def test_heights_changed_behind_the_call(self):
        heights = [0, 0, 0, 1]
        told = Lift(0, heights, 2)
        heights[3] = 0
        self.assertEqual(told.heights, (0, 0, 0, 1))
        lifts = [told]
        grown = led_through(Spindle(KITE), lifts)
        lifts.clear()
        self.assertEqual(grown, lifted(Spindle(KITE), 0, [0, 0, 0, 1], 2))


class LiftOfTest(Case):
    def test_examples(self):
        kite, crossed = Spindle(KITE), Spindle(CROSSED)
        grown = lifted(kite, 0, [0, 0, 0, 1], 2)
        self.assertEqual(
            [lift_of(kite).point, len(lift_of(kite).heights), len(lifts_of(kite)), lifts_of(grown),
             led_through(kite, [Lift(0, [0, 0, 0, 1], 2)]) == grown],
            [0, 4, 1, (), True],
        )
        far = led_through(crossed, lifts_of(crossed))
        self.assertEqual(
            [lift_of(crossed).point, far.dimension, len(far.points), is_plain(far), len(length_of(crossed).walk) - 1,
             len(length_of(far).walk) - 1],
            [4, 5, 10, True, 3, 5],
        )
        self.refuses(Misfit, {"part": "points"}, lift_of, grown)

    def test_what_it_tells(self):
        seen = {3: 0, 4: 0, 5: 0}
        for spindle in to_lift():
            told = lift_of(spindle=spindle)
            self.assertIs(type(told), Lift)
            self.assertEqual(told.point, due_point(spindle))
            self.assertEqual(len(told.heights), len(drawn(spindle, told.point)))
            self.assertTrue(lies_well(spindle, *told.parts))
            grown = lifted(spindle, *told.parts)
            self.assertIs(is_plain(grown), True)
            self.assertGreater(len(length_of(grown).walk), len(length_of(spindle).walk))
            self.assertIs(shows_lift(spindle, told), True)
            self.assertEqual(lift_of(Spindle(list(spindle.points))), told)
            seen[spindle.dimension] += 1
        self.assertGreater(min(seen.values()), 3)

    def test_each_end_is_drawn(self):
        for points in (KITE, KITE[::-1], turned_over(Spindle(KITE)).points, CROSSED):
            spindle = Spindle(points)
            told = lift_of(spindle)
            self.assertEqual(told.point, due_point(spindle))
            wanted = spindle.upper if len(spindle.upper) > 3 else spindle.lower
            self.assertEqual(tuple(drawn(spindle, told.point)), wanted)

    def test_refused(self):
        for error, fields, value in refused_spindles():
            self.refuses(error, fields, lift_of, value)
            for paper in (None, Lift(0, [0, 0, 0, 1], 1)):
                self.refuses(error, fields, shows_lift, value, paper)


class ShowsLiftTest(Case):
    def test_examples(self):
        kite = Spindle(KITE)
        self.assertEqual(
            [shows_lift(kite, Lift(0, [0, 0, 0, 1], 1)), shows_lift(kite, Lift(0, [0, 1, 4, 9], 2)),
             shows_lift(kite, Lift(1, [0, 0, 0, 1], 1)), shows_lift(kite, Lift(0, [5, 5, 5, 5], 1))],
            [True, False, False, False],
        )

    def test_any_lifts(self):
        seen = {True: 0, False: 0}
        unplain = 0
        for seed, spindle in enumerate(to_lift()):
            for point in {due_point(spindle), seed % len(spindle.points)}:
                for heights in some_heights(spindle, point, seed):
                    least = least_by(spindle, point, heights)
                    for by in {1, least - 1, least, least + 7}:
                        right = by > 0 and is_right(spindle, point, heights, by)
                        self.assertIs(shows_lift(value=Lift(point, heights, by), spindle=spindle), right)
                        seen[right] += 1
                    grown = lifted(spindle, point, heights, least)
                    unplain += point == due_point(spindle) and not is_plain(grown)
        self.assertGreater(min(seen.values()), 30)
        # Lifts that lie well, with pieces of too many points.
        self.assertGreater(unplain, 5)

    def test_bent(self):
        for points in (KITE, CROSSED):
            spindle = Spindle(points)
            told = lift_of(spindle)
            many = len(told.heights)
            for value in ODD_VALUES + (-1, 1, 7, 8, GREAT, [told.point], (told.point,), told.point - len(points)):
                if value != told.point or isinstance(value, bool):
                    self.assertIs(shows_lift(spindle, Lift(value, told.heights, told.by)), False)
            for value in ODD_VALUES + (0, -1, [told.by], 1.0, -told.by, told.by - 1):
                self.assertIs(shows_lift(spindle, Lift(told.point, told.heights, value)), False)
            for at in range(many):
                for value in ODD_VALUES + ([1], (told.heights[at],), 1.0):
                    bent = (*told.heights[:at], value, *told.heights[at + 1:])
                    self.assertIs(shows_lift(spindle, Lift(told.point, bent, told.by)), False)
            for value in ODD_VALUES + ((), told.heights[1:], (*told.heights, 1), (told.heights,), 0, [0] * many):
                self.assertIs(shows_lift(spindle, Lift(told.point, value, told.by)), False)

    def test_true_is_no_number(self):
        kite = Spindle(KITE)
        self.assertEqual(Lift(False, (0, 0, 0, True), True), Lift(0, (0, 0, 0, 1), 1))
        for parts in ((False, (0, 0, 0, 1), 1), (0, (0, 0, 0, True), 1), (0, (0, 0, False, 1), 1), (0, (0, 0, 0, 1), True)):
            self.assertIs(shows_lift(kite, Lift(*parts)), False)
        self.assertIs(shows_lift(kite, Lift(0, (0, 0, 0, 1), 1)), True)

    def test_values_that_are_no_such_papers(self):
        kite = Spindle(KITE)
        parts = (0, (0, 0, 0, 1), 1)
        for value in ODD_VALUES + (
            0, [], (), parts, list(parts), Lift, Paper("lift", *parts), Denial("lift", *parts), LikeLift(*parts), kite,
            (Lift(*parts),), [Lift(*parts)],
        ):
            self.assertIs(shows_lift(kite, value), False)


class LiftsOfTest(Case):
    def test_chains(self):
        seen = {}
        for spindle in plain_ones():
            many, wide = len(spindle.points), spindle.dimension
            if many > wide + 6:
                self.refuses(Misfit, {"part": "points"}, lifts_of, spindle)
                continue
            told = lifts_of(spindle=spindle)
            self.assertIs(type(told), tuple)
            self.assertEqual(len(told), many - 2 * wide)
            grown = spindle
            for lift in told:
                self.assertIs(type(lift), Lift)
                self.assertIs(shows_lift(grown, lift), True)
                grown = lifted(grown, *lift.parts)
            self.assertEqual((grown.dimension, len(grown.points)), (many - wide, 2 * (many - wide)))
            self.assertGreaterEqual(len(length_of(grown).walk), len(length_of(spindle).walk) + len(told))
            self.assertEqual(led_through(spindle=spindle, lifts=told), grown)
            self.assertEqual(led_through(spindle, list(told)), grown)
            self.assertEqual(lifts_of(Spindle(spindle.points)), told)
            seen[wide, len(told)] = True
        self.assertLessEqual({(3, 0), (3, 1), (3, 2), (3, 3), (4, 0), (4, 1), (5, 0), (5, 1)}, set(seen))

    def test_dimension_two_and_six(self):
        self.assertEqual(lifts_of(Spindle(ends(*FLAT))), ())
        six = Spindle(ends(curve(5, 6), negated(curve(5, 6))))
        self.assertEqual(lifts_of(made_plain(six)), ())

    def test_refused(self):
        for value in NO_SPINDLES:
            self.refuses(BadSpindle, {"part": "spindle"}, lifts_of, value)
        for points in (PRISM, ROOF, NINE, EDGES, ends(curve(2, 8), curve(2, 8)), ends(curve(5, 6), curve(5, 6))):
            self.refuses(Misfit, {"part": "plain"}, lifts_of, Spindle(points))
        for wide, upper, lower in ((2, 5, 5), (2, 8, 8), (3, 7, 4), (3, 6, 6), (4, 6, 6)):
            points = ends(curve(wide, upper), negated(curve(wide, lower)))
            self.refuses(Misfit, {"part": "points"}, lifts_of, made_plain(Spindle(points)))
        for wide, upper, lower in ((2, 5, 4), (3, 4, 6), (4, 5, 6)):
            points = ends(curve(wide, upper), negated(curve(wide, lower)))
            self.assertEqual(len(lifts_of(made_plain(Spindle(points)))), upper + lower - 2 * wide - 2)


class LedThroughTest(Case):
    def test_any_lifts(self):
        # Neither must be right: what lifted would return comes of each of them.
        for seed, spindle in enumerate(spindles()):
            lifts, grown = [], spindle
            while can_be_lifted(grown):
                point = (seed + 3) % len(grown.points)
                heights = next(iter(some_heights(grown, point, seed)), None)
                if heights is None:
                    break
                lifts.append(Lift(point, heights, 1))
                grown = lifted(grown, point, heights, 1)
                self.assertEqual(led_through(spindle, lifts), grown)
            self.assertEqual(led_through(spindle, []), spindle)
            self.assertEqual(led_through(spindle, ()), spindle)

    def test_no_lists(self):
        kite, right = Spindle(KITE), Lift(0, [0, 0, 0, 1], 2)
        parts = right.parts
        for value in ODD_VALUES + (
            0, right, [parts], [right, None], [None, right], ["lift"], [Lift], [[right]], {0: right}, (right, parts),
            [Paper("lift", *parts)], [LikeLift(*parts)], [right, LikeLift(*parts)],
        ):
            self.refuses(BadPaper, {"part": "lifts"}, led_through, kite, value)
            for other in NO_SPINDLES:
                self.refuses(BadSpindle, {"part": "spindle"}, led_through, other, value)

    def test_what_lifted_raises(self):
        for name, fields, (spindle, point, heights, by) in refused_lifts():
            if name != "BadSpindle":
                bad = Lift(point, heights, by)
                self.refuses(getattr(errors, name), fields, led_through, spindle, [bad])
                self.refuses(getattr(errors, name), fields, led_through, spindle, (bad, Lift(None, None, None)))
        # The second one, behind a right one.
        kite, right = Spindle(KITE), Lift(0, [0, 0, 0, 1], 2)
        for parts, part in (
            ((8, [0, 0, 0, 0], 1), "point"), ((0, [0, 0, 0], 1), "heights"), ((0, [0, 0, 0, 0], 0), "by"),
        ):
            self.refuses(errors.BadNumber, {"part": part}, led_through, kite, [right, Lift(*parts)])
        self.refuses(Misfit, {"part": "heights"}, led_through, kite, [right, Lift(0, [0, 1, 4, 9], 1)])


if __name__ == "__main__":
    unittest.main()
