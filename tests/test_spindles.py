from spindleway.errors import BadNumber, BadSolid, BadSpindle, BadText, SolidError, Spare, Twice
from spindleway.solids import Solid
from spindleway.spindles import Spindle, length_of, shifted, turned_over
from spindleway.steps import Apart, apart, steps_from
from tests.base import GREAT, ODD_VALUES, Case, sides
from tests.samples import MOST, SOLIDS, TENT, cross, curve, simplex
from tests.spindle_samples import (
    CROSSED, EDGES, FOUR, MIXED, MOST_POINTS, PRISM, ROOF, SPINDLES, TWIST, WIDE, ends, great, negated,
)

NO_SPINDLES = ODD_VALUES + (3, ROOF, list(ROOF), Solid(ROOF), str(Solid(ROOF)))


class SpindleTest(Case):
    def check_spindle(self, points):
        spindle = Spindle(points)
        self.assertEqual(spindle.points, tuple(tuple(point) for point in points))
        self.assertEqual(spindle.dimension, len(points[0]))
        self.assertIs(type(spindle.solid), Solid)
        self.assertEqual(spindle.solid, Solid(points))
        self.assertEqual(spindle.upper, tuple(at for at, point in enumerate(points) if point[-1] == 1))
        self.assertEqual(spindle.lower, tuple(at for at, point in enumerate(points) if point[-1] == -1))
        self.assertEqual(spindle.solid.sides[spindle.top], spindle.upper)
        self.assertEqual(spindle.solid.sides[spindle.bottom], spindle.lower)
        return spindle

    def test_examples(self):
        roof = Spindle([(0, 0, 1), (2, 0, 1), (0, 2, 1), (0, 0, -1), (2, 0, -1), (2, 2, -1), (0, 2, -1)])
        self.assertEqual(
            [roof.dimension, roof.upper, roof.lower, roof.top, roof.bottom, str(roof)],
            [3, (0, 1, 2), (3, 4, 5, 6), 0, 6, "0 0 1 / 2 0 1 / 0 2 1 / 0 0 -1 / 2 0 -1 / 2 2 -1 / 0 2 -1"],
        )
        self.assertEqual(
            roof.solid.sides,
            ((0, 1, 2), (0, 1, 3, 4), (0, 2, 3, 6), (1, 2, 5), (1, 4, 5), (2, 5, 6), (3, 4, 5, 6)),
        )
        self.refuses(BadSpindle, {"part": "upper"}, Spindle, [(0, 0, 1), (2, 0, 1), (0, 2, -1), (0, 0, -1)])
        self.refuses(BadSpindle, {"part": "points"}, Spindle, [(0, 0, 1), (2, 0, 1), (0, 2, 1), (0, 0, 0)])
        self.refuses(BadSolid, {"part": "flat"}, Spindle, [(0, 0, 1), (2, 0, 1), (0, 2, 1), (2, 2, 1)])

    def test_each_dimension(self):
        self.assertEqual({len(points[0]) for points in SPINDLES}, {2, 3, 4, 5, 6})
        for points in SPINDLES:
            spindle = self.check_spindle(points)
            if len(points) <= 12:
                self.assertEqual(spindle.solid.sides, sides(points))
            self.check_spindle([list(point) for point in points[::-1]])

    def test_as_many_points_as_may_be(self):
        most = {len(points[0]): len(points) for points in MOST_POINTS}
        # Of dimension two each end is a line: it has two corners.
        self.assertEqual(most, {**MOST, 2: 4})

    def test_great_integers(self):
        for seed, points in enumerate(SPINDLES):
            spindle = self.check_spindle(great(points, seed, 10 ** 55))
            self.assertEqual(spindle.solid.sides, Spindle(points).solid.sides)

    def test_by_name(self):
        self.assertEqual(Spindle(points=ROOF), Spindle(ROOF))

    def test_attributes_are_tuples(self):
        spindle = Spindle([list(point) for point in ROOF])
        for value in (spindle.points, *spindle.points, spindle.upper, spindle.lower):
            self.assertIs(type(value), tuple)

    def test_what_is_changed_behind_the_call(self):
        points = [list(point) for point in ROOF]
        spindle = Spindle(points)
        points[0][0] = 7
        points[1][2] = -1
        points.pop()
        self.assertEqual(spindle, Spindle(ROOF))
        self.assertEqual(spindle.points, ROOF)
        self.assertEqual(spindle.solid.points, ROOF)

    def test_equal(self):
        for points in SPINDLES:
            self.assertIs(Spindle(points) == Spindle([list(point) for point in points]), True)
            self.assertIs(Spindle(points) != Spindle(points), False)

    def test_unequal(self):
        roof = Spindle(ROOF)
        others = [Spindle(points) for points in (ROOF[::-1], (ROOF[1], ROOF[0], *ROOF[2:]), TWIST, FOUR, ROOF[:-1])]
        for other in (*others, Solid(ROOF), roof.solid, ROOF, str(roof), None, 0):
            self.assertIs(roof == other, False)
            self.assertIs(other == roof, False)
            self.assertIs(roof != other, True)

    def test_a_spindle_is_no_solid(self):
        self.assertFalse(issubclass(Spindle, Solid))
        self.assertNotIsInstance(Spindle(ROOF), Solid)
        self.refuses(BadSolid, {"part": "solid"}, steps_from, Spindle(ROOF), 0)


class RefusedPointsTest(Case):
    def bad(self, points):
        self.refuses(BadSpindle, {"part": "points"}, Spindle, points)

    def test_no_list_of_points(self):
        for value in ODD_VALUES + (
            5, [], (), [[]], [()], [1, 2, 3], (1,), [[[1, 1], [3, 1], [5, -1]]], ["ab", "cd", "ef"], Spindle(ROOF),
            Solid(ROOF), str(Spindle(ROOF)),
        ):
            self.bad(value)

    def test_a_value_of_another_kind_at_any_place(self):
        for at in range(len(ROOF)):
            for value in ODD_VALUES + (7, [], [1]):
                self.bad([*ROOF[:at], value, *ROOF[at + 1:]])
            for place in range(3):
                for value in ODD_VALUES + ([], [1]):
                    self.bad([*ROOF[:at], [*ROOF[at][:place], value, *ROOF[at][place + 1:]], *ROOF[at + 1:]])

    def test_last_places(self):
        for points in (ROOF, FOUR, EDGES):
            for at in range(len(points)):
                for last in (0, 2, -2, 3, GREAT, True, False, None, "1", [1], 1.0):
                    self.bad([*points[:at], (*points[at][:-1], last), *points[at + 1:]])
        for points in SOLIDS:
            if not all(point[-1] in (1, -1) for point in points):
                self.bad(points)

    def test_wrong_or_unlike_width(self):
        for wide in (0, 1, 7, 8):
            self.bad([[*[int(place == at) for place in range(wide - 1)], 1][:wide] for at in range(wide + 2)])
        for at in range(len(ROOF)):
            self.bad([*ROOF[:at], (*ROOF[at], 1), *ROOF[at + 1:]])
            self.bad([*ROOF[:at], (ROOF[at][0], ROOF[at][-1]), *ROOF[at + 1:]])

    def test_too_few_or_too_many(self):
        for points in MOST_POINTS:
            wide = len(points[0])
            for many in range(1, wide + 1):
                self.bad(points[:many])
        for wide, most in MOST.items():
            if wide > 2:
                more = ends(curve(wide - 1, (most + 2) // 2), negated(curve(wide - 1, (most + 1) // 2)))
                self.assertEqual(len(more), most + 1)
                self.bad(more)
            self.bad([(*[0] * (wide - 1), 1)] * (most + 1))

    def test_five_points_of_dimension_two(self):
        self.refuses(Spare, {"value": (1, 1)}, Spindle, [(0, 1), (1, 1), (2, 1), (0, -1), (2, -1)])
        self.refuses(Spare, {"value": (1, 1)}, Spindle, [(0, 1), (2, 1), (0, -1), (2, -1), (1, 1)])

    def test_twice(self):
        for points in (ROOF, FOUR, EDGES):
            for at in (0, len(points) - 1):
                self.refuses(Twice, {"value": points[at]}, Spindle, [*points, list(points[at])])
        # The first such point is told, and ahead of what is flat or no corner.
        self.refuses(Twice, {"value": (1, 1)}, Spindle, [(0, 1), (1, 1), (2, 1), (1, 1), (0, 1)])
        with self.assertRaises(Twice) as caught:
            Spindle([[0, 1], [0, -1], [0, 1]])
        self.assertIs(type(caught.exception.value), tuple)

    def test_flat(self):
        for points in (
            [(0, 1), (1, 1), (2, 1)], [(*point, -1) for point in curve(3, 6)], ends([(0, 0), (3, 3)], [(1, 1), (2, 2)]),
            [(0, 0, 1), (1, 0, 1), (0, 0, -1), (1, 0, -1), (5, 0, 1)],
        ):
            self.refuses(BadSolid, {"part": "flat"}, Spindle, points)

    def test_spare(self):
        self.refuses(Spare, {"value": (1, 1, -1)}, Spindle, [*ROOF, (1, 1, -1)])
        self.refuses(Spare, {"value": (1, 0, 1)}, Spindle, [[1, 0, 1], *ROOF])
        for wide in range(3, 7):
            # The lower lot spans too little, which is told behind this.
            points = ends([[10 * number for number in point] for point in simplex(wide - 1)], simplex(wide - 1)[1:])
            middle = (1,) * wide
            self.refuses(Spare, {"value": middle}, Spindle, [*points[:2], list(middle), *points[2:]])

    def test_an_end_that_spans_too_little(self):
        for wide in range(2, 7):
            lot = simplex(wide - 1)
            self.refuses(BadSpindle, {"part": "upper"}, Spindle, ends(lot[:1], lot))
            self.refuses(BadSpindle, {"part": "lower"}, Spindle, ends(lot, lot[:1]))
            self.refuses(BadSpindle, {"part": "upper"}, Spindle, ends(lot[:-1], lot))
            self.refuses(BadSpindle, {"part": "lower"}, Spindle, ends(lot, lot[:-1]))
        # Both: the upper one is told.
        self.refuses(BadSpindle, {"part": "upper"}, Spindle, ends([(0, 0), (1, 0)], [(0, 0), (0, 1)]))
        self.refuses(BadSpindle, {"part": "upper"}, Spindle, ends(cross(3)[:4], cross(3)[2:]))
        self.refuses(BadSpindle, {"part": "lower"}, Spindle, ends(simplex(3), cross(3)[:4]))

    def test_the_order(self):
        self.bad([*ROOF, ROOF[0], (0, 0, 0)])
        self.bad([(0, 0, 1)] * 17)
        self.refuses(Twice, {"value": (0, 0, 1)}, Spindle, [(0, 0, 1), (1, 0, 1), (2, 0, 1), (0, 0, 1)])
        self.refuses(BadSolid, {"part": "flat"}, Spindle, [(0, 0, 1), (1, 0, 1), (2, 0, 1), (0, 0, -1)])
        self.refuses(
            Spare, {"value": (1, 0, 1)}, Spindle, [(0, 0, 1), (1, 0, 1), (2, 0, 1), (0, 0, -1), (0, 1, -1)],
        )


class TextTest(Case):
    def refused_at(self, item, text):
        self.refuses(BadText, {"item": item}, Spindle.read, text)

    def solid_refuses_at(self, text):
        try:
            Solid.read(text)
        except BadText as error:
            return error.item
        return None

    def check_text(self, text):
        """Refused where Solid.read does, and else at the last item, unless it is the text of a spindle."""
        at = self.solid_refuses_at(text)
        try:
            told = Spindle(Solid.read(text).points) if at is None else None
        except SolidError:
            at = text.count(" ")
        if at is None:
            self.assertEqual(Spindle.read(text), told)
            self.assertEqual(str(Spindle.read(text)), text)
        else:
            self.refused_at(at, text)

    def test_examples(self):
        twist = Spindle.read("0 0 1 / 3 0 1 / 0 3 1 / 3 3 -1 / 0 3 -1 / 3 0 -1")
        self.assertEqual(twist.points, TWIST)
        self.refused_at(14, "0 0 1 / 2 0 1 / 0 2 -1 / 0 0 -1")

    def test_there_and_back(self):
        for seed, points in enumerate(SPINDLES):
            for spindle in (Spindle(points), Spindle(great(points, seed, 10 ** 40))):
                self.assertEqual(Spindle.read(str(spindle)), spindle)
                self.assertEqual(str(Spindle.read(text=str(spindle))), str(spindle))
                self.assertEqual(str(spindle), str(spindle.solid))

    def test_no_string(self):
        for value in ODD_VALUES + (0, [], ["0"], Spindle(ROOF)):
            if not isinstance(value, str):
                self.refused_at(0, value)

    def test_bent_items(self):
        for points in (TWIST, ROOF, FOUR):
            items = str(Spindle(points)).split(" ")
            for at in range(len(items)):
                for bent in ("", "+1", "01", "-0", "1.0", "x", "-", "\n", "\u0663", str(10 ** 60)):
                    self.refused_at(at, " ".join([*items[:at], bent, *items[at + 1:]]))

    def test_last_places(self):
        items = str(Spindle(ROOF)).split(" ")
        for at in range(2, len(items), 4):
            for last in ("0", "2", "-2", "7", "9" * 60):
                self.refused_at(len(items) - 1, " ".join([*items[:at], last, *items[at + 1:]]))

    def test_an_item_less_or_more_or_exchanged(self):
        for points in (TWIST, ROOF, MIXED, ((0, 1), (3, 1), (0, -1), (1, -1))):
            items = str(Spindle(points)).split(" ")
            for at in range(len(items)):
                self.check_text(" ".join([*items[:at], *items[at + 1:]]))
                self.check_text(" ".join([*items[:at], items[at], *items[at:]]))
                for more in ("", "0", "1", "-1", "/", "5"):
                    self.check_text(" ".join([*items[:at], more, *items[at:]]))
                    self.check_text(" ".join([*items[:at], more, *items[at + 1:]]))
                for other in range(at):
                    turned = list(items)
                    turned[at], turned[other] = turned[other], turned[at]
                    self.check_text(" ".join(turned))

    def test_more_behind(self):
        text = str(Spindle(TWIST))
        items = text.count(" ") + 1
        self.refused_at(items, text + " ")
        self.refused_at(items, text + " 5")
        self.refused_at(items + 1, text + " /")
        self.refused_at(items + 3, text + " / 0 0")
        self.refused_at(items + 3, text + " / 7 7 0")
        self.refused_at(items + 5, text + " / 7 7 1 /")
        self.assertEqual(Spindle.read(text + " / 4 4 1").points, (*TWIST, (4, 4, 1)))
        for points in MOST_POINTS[1:]:
            text = str(Spindle(points))
            self.refused_at(text.count(" ") + 1, text + " /")

    def test_every_beginning(self):
        for points in (TWIST, FOUR, EDGES):
            items = str(Spindle(points)).split(" ")
            for many in range(len(items)):
                self.check_text(" ".join(items[:many]))

    def test_texts_of_solids(self):
        for points in (TENT, *SOLIDS):
            text = str(Solid(points))
            self.assertFalse(all(point[-1] in (1, -1) for point in points))
            self.refused_at(text.count(" "), text)
        for points in (
            ends([(0, 0)], [(0, 0), (1, 0), (0, 1)]), ends(cross(3)[:4], cross(3)), ends(cross(3), cross(3)[:4]),
        ):
            text = str(Solid(points))
            self.refused_at(text.count(" "), text)


class TurnedOverTest(Case):
    def test_examples(self):
        roof = Spindle(ROOF)
        self.assertEqual(
            [turned_over(roof).upper, turned_over(roof).top, turned_over(roof).points[0]],
            [(3, 4, 5, 6), 6, (0, 0, -1)],
        )

    def test_all(self):
        for points in SPINDLES:
            spindle = Spindle(points)
            told = turned_over(spindle=spindle)
            self.assertEqual(told, Spindle([(*point[:-1], -point[-1]) for point in points]))
            self.assertEqual((told.upper, told.lower), (spindle.lower, spindle.upper))
            self.assertEqual((told.top, told.bottom), (spindle.bottom, spindle.top))
            self.assertEqual(told.solid.sides, spindle.solid.sides)
            self.assertEqual(turned_over(told), spindle)
            self.assertEqual(spindle, Spindle(points))

    def test_refused(self):
        for value in NO_SPINDLES:
            self.refuses(BadSpindle, {"part": "spindle"}, turned_over, value)


class ShiftedTest(Case):
    def test_example(self):
        self.assertEqual(shifted(Spindle(ROOF), [5, -1], (0, 7)).points[2:4], ((5, 1, 1), (0, 7, -1)))

    def test_all(self):
        for points in SPINDLES:
            spindle = Spindle(points)
            wide = spindle.dimension - 1
            for upper, lower in (
                ([0] * wide, [0] * wide), (list(range(1, wide + 1)), [-GREAT] * wide), ([GREAT] * wide, (7,) * wide),
            ):
                told = shifted(spindle, tuple(upper), list(lower))
                self.assertEqual(told, shifted(lower=lower, upper=upper, spindle=spindle))
                self.assertEqual(told.points, tuple(
                    (*[one + two for one, two in zip(point, upper if point[-1] == 1 else lower)], point[-1])
                    for point in points
                ))
                self.assertEqual(told.solid.sides, spindle.solid.sides)
                self.assertEqual((told.upper, told.lower), (spindle.upper, spindle.lower))
                self.assertEqual(spindle, Spindle(points))

    def test_refused(self):
        roof = Spindle(ROOF)
        for value in ODD_VALUES + (
            0, [], [0], [0, 0, 0], [0, True], [None, 0], ["0", 0], [[0], 0], (0, 1.0), [0, 0, 1], [[0, 0]],
        ):
            self.refuses(BadNumber, {"part": "upper"}, shifted, roof, value, (0, 0))
            self.refuses(BadNumber, {"part": "lower"}, shifted, roof, (0, 0), value)
            # The upper row comes wholly ahead of the lower one, and the spindle ahead of both.
            self.refuses(BadNumber, {"part": "upper"}, shifted, roof, value, value)
            for spindle in NO_SPINDLES:
                self.refuses(BadSpindle, {"part": "spindle"}, shifted, spindle, value, value)
        for spindle in NO_SPINDLES:
            self.refuses(BadSpindle, {"part": "spindle"}, shifted, spindle, (0, 0), (0, 0))

    def test_other_dimensions(self):
        for points in SPINDLES:
            spindle = Spindle(points)
            wide = spindle.dimension - 1
            for many in (wide - 1, wide + 1):
                self.refuses(BadNumber, {"part": "upper"}, shifted, spindle, [1] * many, [1] * wide)
                self.refuses(BadNumber, {"part": "lower"}, shifted, spindle, [1] * wide, [1] * many)


class LengthTest(Case):
    def test_examples(self):
        self.assertEqual([len(length_of(Spindle(points)).walk) - 1 for points in (ROOF, TWIST)], [2, 3])

    def test_as_apart(self):
        for points in SPINDLES:
            spindle = Spindle(points)
            told = length_of(spindle=spindle)
            self.assertIs(type(told), Apart)
            self.assertEqual(told, apart(spindle.solid, spindle.top, spindle.bottom))
            self.assertEqual((told.walk[0], told.walk[-1]), (spindle.top, spindle.bottom))
            self.assertEqual(told.numbers, steps_from(spindle.solid, spindle.top))
            self.assertEqual(len(told.walk) - 1, told.numbers[spindle.bottom])

    def test_lengths_that_are_known(self):
        for points in SPINDLES:
            spindle = Spindle(points)
            steps = len(length_of(spindle).walk) - 1
            self.assertGreaterEqual(steps, 2)
            if spindle.dimension <= 4:
                self.assertLessEqual(steps, spindle.dimension)
        self.assertEqual(len(length_of(Spindle(CROSSED)).walk) - 1, 3)
        self.assertEqual(len(length_of(Spindle(PRISM)).walk) - 1, 2)
        self.assertEqual(len(length_of(Spindle(WIDE)).walk) - 1, 4)

    def test_refused(self):
        for value in NO_SPINDLES:
            self.refuses(BadSpindle, {"part": "spindle"}, length_of, value)
