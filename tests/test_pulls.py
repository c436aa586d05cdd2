from fractions import Fraction
from itertools import count
from math import gcd

from spindleway.between import between
from spindleway.errors import BadNumber, BadSpindle
from spindleway.overs import Over, lies_over
from spindleway.pulls import is_plain, made_plain, pulled, pulls_of
from spindleway.ridges import ridges_of
from spindleway.spindles import Spindle, length_of, turned_over
from tests.base import GREAT, ODD_VALUES, Case, product
from tests.over_base import NO_SPINDLES
from tests.samples import board, cross
from tests.spindle_samples import (
    EDGES, ELEVEN, FOUR, KITE, MOVED_ONE, NINE, PRISM, ROOF, SEVEN, SPINDLES, TURNED_ONE, TWISTED, WIDE, ends, great,
    moved_a_little,
)

NO_NUMBERS = ODD_VALUES + ([], [0], (1,), -1, -2, -GREAT, GREAT)
SMALL = (ROOF, PRISM, TURNED_ONE, MOVED_ONE, KITE, FOUR, NINE, EDGES, TWISTED, ELEVEN, ends(SEVEN, SEVEN),
         ends(cross(3), board(3)), moved_a_little(PRISM, 3), moved_a_little(EDGES, 8))


def pulled_by_definition(spindle, point, tries):
    """The points, the point being moved to p + (p - m) / N by the first of the tries for N that will do."""
    end = spindle.upper if point in spindle.upper else spindle.lower
    rows = [[Fraction(number) for number in row] for row in spindle.points]
    middle = [sum(rows[at][place] for at in end) / len(end) for place in range(spindle.dimension)]
    planes = [
        plane for lot, plane in zip(spindle.solid.sides, spindle.solid.planes) if point not in lot
    ]
    for many in tries:
        moved = [one + (one - two) / many for one, two in zip(rows[point], middle)]
        if all(product(row, moved) < number for row, number in planes):
            break
    rows[point] = moved
    rows = [[number * len(end) * many for number in row[:-1]] for row in rows]
    divisor = gcd(*[int(number) for row in rows for number in row])
    assert all(number.denominator == 1 for row in rows for number in row)
    return many, tuple(
        (*[int(number) // divisor for number in row], old[-1]) for row, old in zip(rows, spindle.points)
    )


def sides_when_pulled(spindle, point):
    """What the facts tell of the sides when a point is pulled."""
    sides = spindle.solid.sides
    found = {lot for lot in sides if point not in lot} | {spindle.upper, spindle.lower}
    with_it = {number for number in between(spindle) if point in sides[number]}
    for lot, one, other in ridges_of(spindle.solid):
        if point not in lot and {one, other} & with_it:
            found.add(tuple(sorted((*lot, point))))
    return tuple(sorted(found))


class PulledTest(Case):
    def test_examples(self):
        prism, moved_one, turned_one = Spindle(PRISM), Spindle(MOVED_ONE), Spindle(TURNED_ONE)
        self.assertEqual(
            [is_plain(prism), is_plain(turned_one), pulled(prism, 0) == moved_one, str(pulled(prism, 4))],
            [False, True, True, "0 0 1 / 3 0 1 / 0 3 1 / 0 0 -1 / 5 -1 -1 / 0 3 -1"],
        )
        self.assertEqual(
            [pulls_of(prism), str(made_plain(prism)), made_plain(turned_one) == turned_one, pulls_of(turned_one)],
            [(0, 1), "-3 -3 1 / 16 -2 1 / 0 9 1 / 0 0 -1 / 9 0 -1 / 0 9 -1", True, ()],
        )
        eleven, edges = Spindle(ELEVEN), Spindle(EDGES)
        self.assertEqual(
            [pulls_of(eleven), len(made_plain(eleven).solid.sides), len(length_of(made_plain(eleven)).walk) - 1,
             pulls_of(edges), len(length_of(edges).walk) - 1, len(length_of(made_plain(edges)).walk) - 1],
            [(0, 2), 43, 5, (0, 1, 2), 2, 5],
        )
        self.refuses(BadNumber, {"part": "point"}, pulled, prism, 6)

    def test_by_definition(self):
        parts = set()
        for points in SMALL:
            spindle = Spindle(points)
            for point in range(len(points)):
                many, told = pulled_by_definition(spindle, point, count(1))
                parts.add(many)
                self.assertEqual(pulled(spindle=spindle, point=point).points, told)
        self.assertLessEqual({1, 2, 3}, parts)
        self.assertGreater(max(parts), 20)

    def check_pulled(self, spindle, point):
        told = pulled(spindle, point)
        self.assertEqual((told.upper, told.lower), (spindle.upper, spindle.lower))
        self.assertEqual(gcd(*[number for row in told.points for number in row[:-1]]), 1)
        self.assertEqual(told.solid.sides, sides_when_pulled(spindle, point))
        self.assertIs(type(lies_over(spindle, told)), Over)
        self.assertGreaterEqual(len(length_of(told).walk), len(length_of(spindle).walk))

    def test_all_points(self):
        for points in SPINDLES:
            spindle = Spindle(points)
            for point in range(len(points)):
                self.check_pulled(spindle, point)
            self.assertEqual(spindle, Spindle(points))

    def test_great_integers(self):
        for seed, points in enumerate(SPINDLES):
            for each in (great(points, seed, 10 ** 55), great(points, seed, 10 ** 5)):
                spindle = Spindle(each)
                for point in (0, len(points) // 2, len(points) - 1):
                    self.check_pulled(spindle, point)

    def test_great_parts(self):
        # The point all but lies in the plane of a side without it, so it may be moved a little only.
        # Three corners of the end stand all but in a line, and the last one is not past it.
        upper = ((0, 0), (GREAT, GREAT), (2 * GREAT, 2 * GREAT - 1), (0, -GREAT))
        for points in (ends(upper, ((0, 0), (1, 0), (0, 1))), ends(((0, 0), (1, 0), (0, 1)), upper[::-1])):
            spindle = Spindle(points)
            seen = []
            for point in range(len(points)):
                told = pulled(spindle, point)
                many = self.part_of(spindle, point)
                self.assertEqual(told.points, pulled_by_definition(spindle, point, [many])[1])
                seen.append(many)
                if many > 1:
                    # One less will not do.
                    self.assertFalse(self.stays_below(spindle, point, many - 1))
                self.assertTrue(self.stays_below(spindle, point, many))
            self.assertGreater(max(seen), GREAT // 10)

    def stays_below(self, spindle, point, many):
        end = spindle.upper if point in spindle.upper else spindle.lower
        rows = [[Fraction(number) for number in row] for row in spindle.points]
        middle = [sum(rows[at][place] for at in end) / len(end) for place in range(spindle.dimension)]
        moved = [one + (one - two) / many for one, two in zip(rows[point], middle)]
        return all(
            product(row, moved) < number
            for lot, (row, number) in zip(spindle.solid.sides, spindle.solid.planes)
            if point not in lot
        )

    def part_of(self, spindle, point):
        """The least part by halving: a greater one will do where a lesser one does."""
        most = 1
        while not self.stays_below(spindle, point, most):
            most *= 2
        least = most // 2
        while most - least > 1:
            middle = (least + most) // 2
            if self.stays_below(spindle, point, middle):
                most = middle
            else:
                least = middle
        return most

    def test_the_divisor(self):
        for times in (1, 3, 12, 10 ** 50):
            points = [(*[times * number for number in point[:-1]], point[-1]) for point in PRISM]
            self.assertEqual(pulled(Spindle(points), 0), Spindle(MOVED_ONE))

    def test_dimension_two(self):
        spindle = Spindle([(0, 1), (3, 1), (-1, -1), (1, -1)])
        self.assertEqual(pulled(spindle, 1).points, ((0, 1), (9, 1), (-2, -1), (2, -1)))
        self.assertIs(is_plain(spindle), True)

    def test_refused(self):
        prism = Spindle(PRISM)
        for value in NO_NUMBERS + (6, 7):
            self.refuses(BadNumber, {"part": "point"}, pulled, prism, value)
        for value in NO_SPINDLES:
            for call in (is_plain, made_plain, pulls_of):
                self.refuses(BadSpindle, {"part": "spindle"}, call, value)
            for point in (0, None, -1):
                self.refuses(BadSpindle, {"part": "spindle"}, pulled, value, point)


class PlainTest(Case):
    def test_is_plain(self):
        seen = {True: 0, False: 0}
        for points in SPINDLES:
            spindle = Spindle(points)
            told = is_plain(spindle=spindle)
            lots = [lot for lot in spindle.solid.sides if lot not in (spindle.upper, spindle.lower)]
            self.assertIs(told, all(len(lot) == spindle.dimension for lot in lots))
            self.assertIs(is_plain(turned_over(spindle)), told)
            seen[told] += 1
        self.assertGreater(min(seen.values()), 5)

    def check_made_plain(self, spindle):
        plain, pulls = spindle, []
        for point in range(len(spindle.points)):
            lots = [plain.solid.sides[number] for number in between(plain)]
            if any(point in lot and len(lot) > plain.dimension for lot in lots):
                plain = pulled(plain, point)
                pulls.append(point)
        told = made_plain(spindle=spindle)
        self.assertEqual(told, plain)
        self.assertEqual(pulls_of(spindle=spindle), tuple(pulls))
        self.assertIs(is_plain(told), True)
        self.assertEqual(bool(pulls), not is_plain(spindle))
        self.assertGreaterEqual(len(length_of(told).walk), len(length_of(spindle).walk))
        self.assertIs(type(pulls_of(spindle)), tuple)

    def test_made_plain(self):
        for seed, points in enumerate(SPINDLES):
            self.check_made_plain(Spindle(points))
            self.check_made_plain(Spindle(points[::-1]))
            self.check_made_plain(Spindle(great(points, seed, 10 ** 30)))

    def test_each_end(self):
        # A square over a triangle, told first and told last.
        for points in (WIDE, NINE, NINE[::-1], ROOF, ROOF[::-1], ends(cross(3), board(3)), ends(board(3), cross(3))):
            self.check_made_plain(Spindle(points))

    def test_plain_ones_stay(self):
        for points in (TURNED_ONE, KITE, FOUR, ((0, 1), (6, 1), (0, -1), (6, -1))):
            spindle = Spindle([(*[7 * number for number in point[:-1]], point[-1]) for point in points])
            if is_plain(spindle):
                self.assertEqual(made_plain(spindle), spindle)
                self.assertEqual(pulls_of(spindle), ())
        self.assertIs(is_plain(Spindle(KITE)), True)
        self.assertIs(is_plain(Spindle(TURNED_ONE)), True)
