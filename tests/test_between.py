from spindleway.between import between, crossings, parts_of, ring_of
from spindleway.errors import BadNumber, BadSpindle, Misfit
from spindleway.ridges import are_near
from spindleway.solids import Solid
from spindleway.spindles import Spindle, turned_over
from tests.base import GREAT, ODD_VALUES, Case
from tests.samples import board, curve
from tests.spindle_samples import EDGES, FOUR, ROOF, SEVEN, SPINDLES, TWISTED, ends, great, negated

NO_SPINDLES = ODD_VALUES + (3, ROOF, Solid(ROOF), str(Solid(ROOF)))
NO_NUMBERS = ODD_VALUES + ([], [0], (1,), -1, -2, -GREAT, GREAT)


def crossings_by_definition(spindle):
    found = []
    for upper in spindle.upper:
        for lower in spindle.lower:
            both = [set(side) for side in spindle.solid.sides if upper in side and lower in side]
            if both and set.intersection(*both) == {upper, lower}:
                found.append((upper, lower))
    return tuple(sorted(found))


class BetweenTest(Case):
    def test_examples(self):
        roof, four = Spindle(ROOF), Spindle(FOUR)
        self.assertEqual(
            [between(roof), parts_of(roof, 1), parts_of(roof, side=0), crossings(roof), ring_of(roof)],
            [(1, 2, 3, 4, 5), ((0, 1), (3, 4)), ((0, 1, 2), ()), ((0, 3), (1, 4), (1, 5), (2, 5), (2, 6)),
             (1, 2, 5, 3, 4)],
        )
        self.assertEqual(
            [len(four.solid.sides), four.solid.sides[3], parts_of(four, 3), len(crossings(four)), crossings(four)[:4]],
            [16, (0, 1, 6, 7), ((0, 1), (6, 7)), 12, ((0, 5), (0, 6), (0, 7), (1, 4))],
        )
        self.refuses(Misfit, {"part": "dimension"}, ring_of, four)
        self.refuses(BadNumber, {"part": "side"}, parts_of, roof, 7)

    def test_between_and_parts(self):
        for points in SPINDLES:
            spindle = Spindle(points)
            sides = spindle.solid.sides
            told = between(spindle=spindle)
            self.assertEqual(told, tuple(sorted(set(range(len(sides))) - {spindle.top, spindle.bottom})))
            for number, side in enumerate(sides):
                upper, lower = parts_of(spindle=spindle, side=number)
                self.assertEqual(upper, tuple(at for at in side if points[at][-1] == 1))
                self.assertEqual(lower, tuple(at for at in side if points[at][-1] == -1))
                self.assertEqual(bool(upper) and bool(lower), number in told)
                self.assertIs(type(upper), tuple)
                self.assertIs(type(lower), tuple)

    def test_neighbours_of_the_ends(self):
        # A side between is a neighbour of an end just if its part there spans two dimensions less than the spindle.
        for points in SPINDLES:
            spindle = Spindle(points)
            self.assertIs(are_near(spindle.solid, spindle.top, spindle.bottom), False)
            for number in between(spindle):
                if len(spindle.solid.sides[number]) == spindle.dimension:
                    upper, lower = parts_of(spindle, number)
                    wide = spindle.dimension - 1
                    self.assertIs(are_near(spindle.solid, number, spindle.top), len(upper) == wide)
                    self.assertIs(are_near(spindle.solid, number, spindle.bottom), len(lower) == wide)

    def test_crossings(self):
        for seed, points in enumerate(SPINDLES):
            for each in (points, points[::-1], great(points, seed, 10 ** 30)):
                spindle = Spindle(each)
                told = crossings(spindle=spindle)
                self.assertEqual(told, crossings_by_definition(spindle))
                self.assertEqual(told, tuple(sorted(told)))
                for upper, lower in told:
                    self.assertEqual((each[upper][-1], each[lower][-1]), (1, -1))

    def test_crossings_turned_over(self):
        for points in SPINDLES:
            spindle = Spindle(points)
            told = crossings(turned_over(spindle))
            self.assertEqual(told, tuple(sorted((lower, upper) for upper, lower in crossings(spindle))))

    def test_points_that_share_sides_and_are_no_crossing(self):
        for points in (EDGES, TWISTED, ends(SEVEN, SEVEN), ends(board(3), board(3))):
            spindle = Spindle(points)
            shared = {
                (upper, lower): [side for side in spindle.solid.sides if upper in side and lower in side]
                for upper in spindle.upper for lower in spindle.lower
            }
            told = crossings(spindle)
            others = [pair for pair, lots in shared.items() if len(lots) > 1 and pair not in told]
            self.assertTrue(others)
            for pair in others:
                self.assertGreater(len(set.intersection(*map(set, shared[pair]))), 2)

    def test_dimension_two(self):
        spindle = Spindle([(0, 1), (3, -1), (3, 1), (0, -1)])
        self.assertEqual(crossings(spindle), ((0, 3), (2, 1)))
        self.assertEqual(between(spindle), (1, 2))

    def test_refused(self):
        roof = Spindle(ROOF)
        for value in NO_SPINDLES:
            for call in (between, crossings, ring_of):
                self.refuses(BadSpindle, {"part": "spindle"}, call, value)
            for side in (0, None, -1, True):
                self.refuses(BadSpindle, {"part": "spindle"}, parts_of, value, side)
        for value in NO_NUMBERS + (7, 8):
            self.refuses(BadNumber, {"part": "side"}, parts_of, roof, value)


class RingTest(Case):
    def test_rings(self):
        for points in SPINDLES:
            spindle = Spindle(points)
            if spindle.dimension != 3:
                self.refuses(Misfit, {"part": "dimension"}, ring_of, spindle)
                continue
            told = ring_of(spindle=spindle)
            self.assertIs(type(told), tuple)
            self.assertEqual(sorted(told), list(between(spindle)))
            for at in range(len(told)):
                self.assertIs(are_near(spindle.solid, told[at - 1], told[at]), True)
            self.assertEqual(told[0], min(told))
            self.assertLess(told[1], told[-1])

    def test_sides_that_touch_at_a_point_are_no_neighbours(self):
        for many in range(3, 9):
            spindle = Spindle(ends(curve(2, many), negated(curve(2, 16 - many))))
            told = ring_of(spindle)
            for at, one in enumerate(told):
                beside = [other for other in told if are_near(spindle.solid, one, other)]
                self.assertEqual(sorted(beside), sorted([told[at - 1], told[(at + 1) % len(told)]]))
