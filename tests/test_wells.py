import unittest
from functools import cache

from spindleway import errors
from spindleway.check_lifts import shows_well
from spindleway.errors import BadNumber, BadPaper, Misfit
from spindleway.lifts import Lift, least_by, lifted
from spindleway.overs import Over, Strays
from spindleway.papers import Denial, Paper
from spindleway.pulls import is_plain
from spindleway.ridges import near
from spindleway.spindles import Spindle, length_of
from spindleway.steps import steps_from
from spindleway.walks import is_numbering
from spindleway.wells import Shut, Well, led_up, well
from tests.base import GREAT, ODD_VALUES, Case
from tests.lift_base import can_be_lifted, denials, drawn, plain_ones, refused_lifts, some_heights, spindles, takers
from tests.spindle_samples import ELEVEN, KITE, NINE

HEIGHTS = (0, 0, 0, 1)
SIDES = (4, 0, 5, 1, 6, 7, 2, 8, 8, 3, 4, 5, 6, 7, 8, 8, 8)
NUMBERS = (0, 1, 1, 2, 1, 2, 2, 2, 3)


class LikeWell(Well):
    pass


class LikeStrays(Strays):
    pass


class LikeShut(Shut):
    pass


# What is no Well of the kite, though nearly one.
NO_WELLS = ODD_VALUES + (
    0, 7, [], SIDES, list(SIDES), (SIDES,), Well, Paper("well", SIDES), Denial("well", SIDES), Paper("well", *SIDES),
    LikeWell(SIDES), Over(SIDES), Lift(0, HEIGHTS, 2), Well(None), Well(0), Well(()), Well((SIDES,)), Well({}),
    Well("0"), Well(SIDES[:-1]), Well((*SIDES, 8)), Well(SIDES[::-1]), Well((4, False, *SIDES[2:])),
    Well((*SIDES[:3], True, *SIDES[4:])), Well((4.0, *SIDES[1:])),
)


@cache
def some_lifts():
    """Lifts of plain spindles and of others, that lie well and that do not, each with what is lifted."""
    found = []
    for seed, spindle in enumerate((*spindles(), *plain_ones()[::2])):
        if can_be_lifted(spindle):
            point = (seed * 5 + 3) % len(spindle.points)
            for heights in some_heights(spindle, point, seed)[seed % 2:3]:
                least = least_by(spindle, point, heights) if is_plain(spindle) else 1000
                for by in sorted({(least + 1) // 2, least} if is_plain(spindle) else {1, 500, 1000}):
                    found.append((spindle, point, heights, by, lifted(spindle, point, heights, by)))
    # All sides are taken, two neighbours of the drawn end by others.
    eleven, heights = Spindle(ELEVEN), [1, 1, 1, 0, -1, 0]
    return found + [(eleven, 6, heights, 1000, lifted(eleven, 6, heights, 1000))]


class PapersTest(Case):
    def test_fields(self):
        for made in (Well([0, [1]]), Well(sides=(0, [1]))):
            self.assertEqual((made.sides, made.word, made.parts), ((0, (1,)), "well", ((0, (1,)),)))
            self.assertIs(bool(made), True)
        for made in (Shut([5]), Shut(side=(5,))):
            self.assertEqual((made.side, made.word, made.parts), ((5,), "shut", ((5,),)))
            self.assertIs(bool(made), False)
        self.assertTrue(issubclass(Shut, Denial))
        self.assertFalse(issubclass(Well, Denial))
        self.assertNotEqual(Shut(1), Strays(1))


class WellTest(Case):
    def test_examples(self):
        kite = Spindle(KITE)
        told = well(kite, 0, [0, 0, 0, 1], 2)
        self.assertEqual([told.word, told.sides], ["well", SIDES])
        self.assertEqual(
            [well(kite, 0, [0, 1, 4, 9], 2).word, well(kite, 0, [0, 1, 4, 9], 2).side,
             well(kite, 0, [0, 1, 4, 9], 3).word],
            ["strays", 0, "well"],
        )
        nine = Spindle(NINE)
        lost = well(nine, 1, [0, 1, 0, 0, 0], 1000)
        grown = lifted(nine, 1, [0, 1, 0, 0, 0], 1000)
        self.assertEqual(
            [is_plain(nine), lost.word, lost.side, grown.solid.sides[17]], [False, "shut", 17, (1, 4, 5, 6, 7, 9)],
        )
        self.assertEqual([len(length_of(nine).walk) - 1, len(length_of(grown).walk) - 1], [3, 3])

    def test_by_definition(self):
        seen = {"well": 0, "strays": 0, "shut": 0}
        for spindle, point, heights, by, grown in some_lifts():
            told = well(spindle=spindle, point=point, heights=heights, by=by)
            rows = takers(spindle, point, grown)
            strays, shut = denials(spindle, point, grown)
            if strays:
                wanted = Strays(strays[0])
            elif shut:
                wanted = Shut(shut[0])
            else:
                wanted = Well([row[0] for row in rows])
                self.assertTrue(all(len(row) == 1 for row in rows))
                self.assertGreater(len(length_of(grown).walk), len(length_of(spindle).walk))
            self.assertIs(type(told), type(wanted))
            self.assertEqual(told, wanted)
            self.assertEqual(well(spindle, point, tuple(heights), by), told)
            seen[told.word] += 1
        self.assertGreater(min(seen.values()), 5)

    def test_refused(self):
        for name, fields, values in refused_lifts():
            self.refuses(getattr(errors, name), fields, well, *values)


class LedUpTest(Case):
    def test_examples(self):
        kite = Spindle(KITE)
        told = well(kite, 0, [0, 0, 0, 1], 2)
        self.assertEqual(
            led_up(kite, 0, [0, 0, 0, 1], 2, told, [0, 1, 1, 2, 1, 2, 2, 2, 3]),
            (1, 0, 2, 1, 2, 2, 1, 3, 3, 2, 1, 2, 2, 2, 4, 3, 3),
        )
        self.refuses(
            Misfit, {"part": "numbers"}, led_up, kite, 0, [0, 0, 0, 1], 2, told, [0, 1, 1, 2, 1, 2, 2, 2, 4],
        )

    def test_by_definition(self):
        seen = 0
        for spindle, point, heights, by, grown in some_lifts():
            told = well(spindle, point, heights, by)
            if not told:
                continue
            end = grown.solid.sides.index(tuple(drawn(spindle, point)))
            for start in (spindle.top, spindle.bottom, len(spindle.solid.sides) // 2):
                numbers = [more - GREAT for more in steps_from(spindle.solid, start)]
                grown_numbers = led_up(
                    spindle=spindle, point=point, heights=heights, by=by, well=told, numbers=numbers,
                )
                wanted = [numbers[side] for side in told.sides]
                wanted[end] = numbers[spindle.solid.sides.index(tuple(drawn(spindle, point)))] + 1
                self.assertEqual(grown_numbers, tuple(wanted))
                self.assertTrue(is_numbering(grown.solid.neighbours, grown_numbers))
                self.assertEqual(
                    led_up(spindle, point, tuple(heights), by, Well(list(told.sides)), tuple(numbers)), grown_numbers,
                )
                seen += 1
        self.assertGreater(seen, 50)

    def test_the_way_grows(self):
        kite = Spindle(KITE)
        told = well(kite, 0, HEIGHTS, 2)
        numbers = steps_from(kite.solid, kite.top)
        grown = led_up(kite, 0, HEIGHTS, 2, told, numbers)
        other = lifted(kite, 0, HEIGHTS, 2)
        self.assertEqual(grown[other.bottom] - grown[other.top], numbers[kite.bottom] - numbers[kite.top] + 1)

    def test_no_well(self):
        kite, nine = Spindle(KITE), Spindle(NINE)
        right = Well(SIDES)
        for value in NO_WELLS + (Strays(0), Shut(0)):
            for numbers in (NUMBERS, None, [0] * 9):
                self.refuses(BadPaper, {"part": "well"}, led_up, kite, 0, HEIGHTS, 2, value, numbers)
        for at in range(len(SIDES)):
            for value in (None, [SIDES[at]], SIDES[at] + 1, SIDES[at] - 1, -1, GREAT):
                bent = Well((*SIDES[:at], value, *SIDES[at + 1:]))
                self.refuses(BadPaper, {"part": "well"}, led_up, kite, 0, HEIGHTS, 2, bent, NUMBERS)
        # Of another lift, and of lifts that do not lie well.
        self.refuses(BadPaper, {"part": "well"}, led_up, kite, 1, HEIGHTS, 2, right, NUMBERS)
        for by in (1, 2):
            lost = well(kite, 0, [0, 1, 4, 9], by)
            for value in (lost, right, well(kite, 0, [0, 1, 4, 9], 3)):
                self.refuses(BadPaper, {"part": "well"}, led_up, kite, 0, [0, 1, 4, 9], by, value, NUMBERS)
        grown = lifted(nine, 1, [0, 1, 0, 0, 0], 1000)
        rows = takers(nine, 1, grown)
        for value in (well(nine, 1, [0, 1, 0, 0, 0], 1000), Well([row[0] for row in rows])):
            self.refuses(
                BadPaper, {"part": "well"}, led_up, nine, 1, [0, 1, 0, 0, 0], 1000, value, [0] * len(nine.solid.sides),
            )

    def test_no_numbers(self):
        kite, told = Spindle(KITE), Well(SIDES)
        for value in ODD_VALUES + ([], NUMBERS[:-1], (*NUMBERS, 3), [*NUMBERS[:-1], True], [*NUMBERS[:-1], None], 9):
            self.refuses(BadNumber, {"part": "numbers"}, led_up, kite, 0, HEIGHTS, 2, told, value)
        for at in range(len(NUMBERS)):
            for more in (3, -3, GREAT):
                bent = [*NUMBERS[:at], NUMBERS[at] + more, *NUMBERS[at + 1:]]
                self.refuses(Misfit, {"part": "numbers"}, led_up, kite, 0, HEIGHTS, 2, told, bent)
        self.assertEqual(led_up(kite, 0, HEIGHTS, 2, told, [5] * 9), (5,) * 14 + (6, 5, 5))

    def test_refused(self):
        for name, fields, values in refused_lifts():
            for told, numbers in ((Well(SIDES), NUMBERS), (None, None)):
                self.refuses(getattr(errors, name), fields, led_up, *values, told, numbers)


class ShowsWellTest(Case):
    def test_examples(self):
        kite, nine = Spindle(KITE), Spindle(NINE)
        told = well(kite, 0, [0, 0, 0, 1], 2)
        self.assertEqual(
            [shows_well(kite, 0, [0, 0, 0, 1], 2, told), shows_well(kite, 0, [0, 1, 4, 9], 2, Strays(0)),
             shows_well(kite, 0, [0, 0, 0, 1], 2, Strays(0))],
            [True, True, False],
        )
        self.assertEqual(
            [shows_well(nine, 1, [0, 1, 0, 0, 0], 1000, Shut(17)), shows_well(nine, 1, [0, 1, 0, 0, 0], 1000, Shut(18))],
            [True, False],
        )

    def test_all_sides(self):
        seen = {"strays": 0, "shut": 0, "both": 0}
        for spindle, point, heights, by, grown in some_lifts():
            strays, shut = denials(spindle, point, grown)
            many = len(grown.solid.sides)
            for side in {-1, many, *range(0, many, 5), *strays[-2:], *shut}:
                self.assertIs(shows_well(spindle, point, heights, by, Strays(side)), side in strays)
                self.assertIs(shows_well(spindle, point, heights, by, Shut(side)), side in shut)
            told = Well([row[0] if row else None for row in takers(spindle, point, grown)])
            self.assertIs(
                shows_well(value=told, by=by, heights=heights, point=point, spindle=spindle), not strays and not shut,
            )
            seen["strays"] += len(strays)
            seen["shut"] += len(shut)
            seen["both"] += bool(strays and shut)
        self.assertGreater(min(seen.values()), 2)

    def test_a_neighbour_that_strays_is_not_shut(self):
        seen = 0
        for spindle, point, heights, by, grown in some_lifts():
            end = grown.solid.sides.index(tuple(drawn(spindle, point)))
            for side in set(near(grown.solid, end)) & set(denials(spindle, point, grown)[0]):
                seen += 1
                self.assertIs(shows_well(spindle, point, heights, by, Shut(side)), False)
                self.assertIs(shows_well(spindle, point, heights, by, Strays(side)), True)
        self.assertGreater(seen, 5)

    def test_bent_at_any_place(self):
        kite, nine = Spindle(KITE), Spindle(NINE)
        for at in range(len(SIDES)):
            for value in ODD_VALUES + (-1, 9, GREAT, [SIDES[at]], SIDES[at] + 1, SIDES[at] - 1, SIDES[at] - 9, 0.0):
                bent = Well((*SIDES[:at], value, *SIDES[at + 1:]))
                self.assertIs(shows_well(kite, 0, HEIGHTS, 2, bent), False)
        for value in ODD_VALUES + (-1, -17, 17, GREAT, [0], (0,), "0", 0.0, Strays(0)):
            self.assertIs(shows_well(kite, 0, [0, 1, 4, 9], 2, Strays(value)), False)
            self.assertIs(shows_well(nine, 1, [0, 1, 0, 0, 0], 1000, Shut(value)), value == 17 and type(value) is int)
        self.assertIs(shows_well(nine, 1, [0, 1, 0, 0, 0], 1000, Shut(17.0)), False)
        self.assertIs(shows_well(kite, 0, [0, 1, 4, 9], 2, Strays(False)), False)

    def test_values_that_are_no_such_papers(self):
        kite, nine = Spindle(KITE), Spindle(NINE)
        for value in NO_WELLS + (Strays, Shut, Denial("strays", 0), Paper("shut", 17), Denial("shut", 17)):
            self.assertIs(shows_well(kite, 0, HEIGHTS, 2, value), False)
        for value in NO_WELLS + (LikeStrays(0), Denial("strays", 0), Shut(0), (0,), 0):
            self.assertIs(shows_well(kite, 0, [0, 1, 4, 9], 2, value), False)
        for value in NO_WELLS + (LikeShut(17), Denial("shut", 17), Strays(17), 17):
            self.assertIs(shows_well(nine, 1, [0, 1, 0, 0, 0], 1000, value), False)

    def test_refused_ahead_of_the_value(self):
        for name, fields, values in refused_lifts():
            for value in (None, Well(SIDES), Strays(0), Shut(0)):
                self.refuses(getattr(errors, name), fields, shows_well, *values, value)


if __name__ == "__main__":
    unittest.main()
