from itertools import combinations
from math import gcd

from spindleway.errors import BadNumber
from spindleway.fortyeight import Long
from spindleway.likenesses import Likeness, kinds_of, likenesses_of
from tests.base import GREAT, ODD_VALUES, Case, determinant, product, span

LONG = Long()


def near_by_definition():
    """For each side the sides with which it has in common what spans three dimensions."""
    near = [set() for _ in LONG.sides]
    for one, other in combinations(range(len(LONG.sides)), 2):
        shared = set(LONG.sides[one]) & set(LONG.sides[other])
        if len(shared) >= 4 and span([LONG.points[at] for at in sorted(shared)]) == 3:
            near[one].add(other)
            near[other].add(one)
    return tuple(tuple(sorted(numbers)) for numbers in near)


NEAR = near_by_definition()


def steps_by_definition(start):
    steps = {start: 0}
    front = [start]
    while front:
        front = sorted({other for side in front for other in NEAR[side]} - set(steps))
        far = max(steps.values()) + 1
        steps.update({side: far for side in front})
    return tuple(steps[side] for side in range(len(NEAR)))


LEFT = steps_by_definition(LONG.bottom)


class LongTest(Case):
    def test_examples(self):
        long = Long()
        self.assertEqual(
            [len(long.points), len(long.sides), long.top, long.bottom, long.points[30], long.sides[319],
             long.planes[319], long.near(319)],
            [48, 322, 145, 0, (0, 0, 30, 30, 1), (30, 39, 44, 46, 47), ((2, 1, 1, 1, 15), 75),
             (289, 293, 315, 316, 318)],
        )
        self.assertEqual(
            [long.walk(), [list(long.numbers()).count(step) for step in range(7)],
             long.given()[4].led((0, 0, 30, 30, 1)), long == Long()],
            [(145, 49, 17, 65, 61, 59, 0), [1, 32, 64, 96, 96, 32, 1], (30, 30, 0, 0, -1), True],
        )
        self.assertEqual(
            [len(likenesses_of(long.points, long.given())),
             [len(kind) for kind in kinds_of(long.points, long.given(), long.sides)]],
            [64, [2, 64, 64, 64, 64, 64]],
        )
        self.refuses(BadNumber, {"part": "side"}, long.near, 322)

    def test_points(self):
        upper = set()
        for one in (1, -1):
            upper |= {(18 * one, 0, 0, 0), (0, 18 * one, 0, 0), (0, 0, 45 * one, 0), (0, 0, 0, 45 * one)}
            for two in (1, -1):
                upper |= {(15 * one, 15 * two, 0, 0), (0, 0, 30 * one, 30 * two)}
                upper |= {(0, 10 * one, 40 * two, 0), (10 * one, 0, 0, 40 * two)}
        self.assertEqual(len(upper), 24)
        lower = {(e, c, a, b, -1) for a, b, c, e in upper}
        self.assertEqual(LONG.points, tuple(sorted({(*point, 1) for point in upper} | lower)))

    def test_planes(self):
        self.assertEqual(len(LONG.planes), len(LONG.sides))
        for side, (row, number) in zip(LONG.sides, LONG.planes):
            self.assertEqual(gcd(*row), 1)
            worths = [product(row, point) - number for point in LONG.points]
            self.assertEqual(max(worths), 0)
            self.assertEqual(side, tuple(at for at, worth in enumerate(worths) if worth == 0))
            self.assertEqual(span([LONG.points[at] for at in side]), 4)

    def test_sides(self):
        self.assertEqual(len(LONG.sides), 322)
        self.assertEqual(list(LONG.sides), sorted(set(LONG.sides)))
        sizes = [len(side) for side in LONG.sides]
        self.assertEqual([sizes.count(many) for many in (24, 5, 6, 7)], [2, 192, 64, 64])
        for number, last in ((LONG.top, 1), (LONG.bottom, -1)):
            self.assertEqual(
                LONG.sides[number], tuple(at for at, point in enumerate(LONG.points) if point[-1] == last),
            )
            self.assertEqual(LONG.planes[number], ((0, 0, 0, 0, last), 1))

    def test_no_side_is_missing(self):
        # Each ridge of a side, told by the points of the side alone, leads to a neighbour that is there.
        for number, side in enumerate(LONG.sides):
            if len(side) > 7:
                continue
            points = [LONG.points[at] for at in side]
            shared = {tuple(at for at in side if at in LONG.sides[other]) for other in NEAR[number]}
            self.assertEqual(shared, self.ridges_of_side(side, points, LONG.planes[number]))
        self.assertEqual(len(NEAR[LONG.top]), 32)

    def ridges_of_side(self, side, points, plane):
        """The ridges of a side: what of it a plane holds that cuts it and has its other points on one hand."""
        found = set()
        for chosen in combinations(range(len(side)), 4):
            if span([points[at] for at in chosen]) < 3:
                continue
            held = [at for at in range(len(side)) if span([points[each] for each in (*chosen, at)]) == 3]
            rows = [points[at] for at in chosen]
            worths = {
                number > 0 for number in (self.turned_worth(rows, point, plane) for point in points) if number != 0
            }
            if len(worths) == 1:
                found.add(tuple(side[at] for at in held))
        return found

    def turned_worth(self, rows, point, plane):
        """On which hand a point of the plane stands of four others: the sign of a determinant."""
        steps = [[one - two for one, two in zip(row, rows[0])] for row in (*rows[1:], point)]
        return determinant([*steps, list(plane[0])])

    def test_near(self):
        for number in range(322):
            self.assertEqual(LONG.near(side=number), NEAR[number])
            self.assertIs(type(LONG.near(number)), tuple)
            wanted = {24: 32, 5: 5, 6: 6, 7: 6}[len(LONG.sides[number])]
            self.assertEqual(len(NEAR[number]), wanted)

    def test_kinds(self):
        kinds = kinds_of(LONG.points, LONG.given(), LONG.sides)
        self.assertEqual(sorted(len(kind) for kind in kinds), [2, 64, 64, 64, 64, 64])
        planes = {
            ((2, 1, 1, 1, 15), 75): 5, ((2, 1, 1, 4, -45), 135): 5, ((6, 3, 3, 2, 60), 210): 5,
            ((16, 8, 7, 5, 180), 540): 6, ((4, 2, 2, 10, -135), 315): 7,
        }
        seen = set()
        for plane, many in planes.items():
            side = LONG.sides[LONG.planes.index(plane)]
            self.assertEqual(len(side), many)
            seen.add(next(at for at, kind in enumerate(kinds) if side in kind))
        self.assertEqual(len(seen), 5)

    def test_given(self):
        told = LONG.given()
        self.assertIs(type(told), tuple)
        turns = [Likeness((0, 1, 2, 3, 4), [-1 if at == turned else 1 for at in range(5)]) for turned in range(4)]
        self.assertEqual(told, (*turns, Likeness((3, 2, 0, 1, 4), (1, 1, 1, 1, -1))))
        self.assertEqual(LONG.given(), told)

    def test_numbers(self):
        told = LONG.numbers()
        self.assertIs(type(told), tuple)
        self.assertEqual(told, steps_by_definition(LONG.top))
        self.assertEqual([told.count(step) for step in range(8)], [1, 32, 64, 96, 96, 32, 1, 0])
        self.assertEqual((told[LONG.top], told[LONG.bottom]), (0, 6))

    def test_walk(self):
        walks = [(LONG.top,)]
        for _ in range(6):
            walks = [(*walk, side) for walk in walks for side in NEAR[walk[-1]]]
            walks = [walk for walk in walks if LEFT[walk[-1]] == 7 - len(walk)]
        self.assertEqual(len(walks), 64)
        self.assertEqual(LONG.walk(), min(walks))
        self.assertIs(type(LONG.walk()), tuple)

    def test_equal(self):
        self.assertIs(LONG == Long(), True)
        self.assertIs(LONG != Long(), False)
        for other in (None, 0, LONG.points, LONG.sides, Long, "long"):
            self.assertIs(LONG == other, False)
            self.assertIs(other == LONG, False)

    def test_the_same_at_each_call(self):
        other = Long()
        for one, two in (
            (LONG.points, other.points), (LONG.sides, other.sides), (LONG.planes, other.planes), (LONG.top, other.top),
            (LONG.bottom, other.bottom), (LONG.walk(), other.walk()), (LONG.numbers(), other.numbers()),
            (LONG.given(), other.given()), (LONG.near(7), other.near(7)), (LONG.walk(), LONG.walk()),
        ):
            self.assertEqual(one, two)

    def told_by(self, long):
        """All that a Long tells."""
        return (
            long.points, long.sides, long.planes, long.top, long.bottom, long.walk(), long.numbers(),
            [long.near(side) for side in range(322)], [(each.places, each.signs) for each in long.given()],
        )

    def test_as_it_was_whatever_is_done_with_an_earlier_one(self):
        wanted = self.told_by(LONG)
        bent = Long()
        for likeness in bent.given():
            likeness.places, likeness.signs = (1, 0), (1, 1)
        for value in (bent.points, bent.sides, bent.planes, bent.near(0), bent.numbers(), bent.walk()):
            with self.assertRaises(TypeError):
                value[0] = None
        for value in (list(bent.sides), list(bent.near(0)), list(bent.planes)):
            value.clear()
        for name in list(vars(bent)):
            setattr(bent, name, ())
        self.assertEqual(self.told_by(Long()), wanted)
        self.assertEqual(Long(), LONG)
        vars(bent).clear()
        self.assertEqual(self.told_by(Long()), wanted)
        self.assertEqual(self.told_by(LONG), wanted)

    def test_attributes_are_tuples(self):
        near = [LONG.near(side) for side in range(322)]
        for value in (LONG.points, *LONG.points, LONG.sides, *LONG.sides, LONG.planes, *LONG.planes, *near):
            self.assertIs(type(value), tuple)
        for row, number in LONG.planes:
            self.assertIs(type(row), tuple)
            self.assertIs(type(number), int)

    def test_refused(self):
        for value in ODD_VALUES + ([], [0], (1,), -1, -322, 322, 323, GREAT, -GREAT):
            self.refuses(BadNumber, {"part": "side"}, LONG.near, value)
