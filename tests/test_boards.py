import unittest
from itertools import product

from spindleway.boards import Short, agreeing, is_board, short_path
from spindleway.errors import BadNumber, BadSolid, Misfit
from spindleway.papers import Denial, Paper
from spindleway.solids import Solid
from tests.base import GREAT, ODD_VALUES, Case
from tests.corner_base import NO_NUMBERS, NO_SOLIDS, boards, is_path, rings, solids
from tests.samples import CUBE, TENT, board

FOUR = ((0, 0, 0), (0, 1, 1), (1, 0, 1), (1, 1, 0))


def agree(points, one, other):
    return {place for place in range(len(points[0])) if points[one][place] == points[other][place]}


def is_short(points, value, other):
    return is_path(points, value) and all(
        agree(points, ahead, other) <= agree(points, at, other) for ahead, at in zip(value, value[1:])
    )


class ShortPaperTest(Case):
    def test_fields(self):
        for made in (Short([0, [1]]), Short(points=(0, (1,)))):
            self.assertEqual((made.points, made.word, made.parts), ((0, (1,)), "short", ((0, (1,)),)))
            self.assertIs(bool(made), True)
        for value in ODD_VALUES + (7,):
            self.assertIs(Short(value).points, value)
        self.assertTrue(issubclass(Short, Paper))
        self.assertFalse(issubclass(Short, Denial))


class BoardTest(Case):
    def test_examples(self):
        cube, tent, four = Solid(CUBE), Solid(TENT), Solid(FOUR)
        self.assertEqual(
            [is_board(cube), is_board(tent), is_board(four), agreeing(cube, 1, 3), agreeing(tent, 1, 4),
             agreeing(four, 1, 1)],
            [True, False, True, (0, 2), (), (0, 1, 2)],
        )
        self.assertEqual(
            [len(short_path(cube, 0, 7).points), len(short_path(cube, 1, 3).points), short_path(four, 1, 2).points,
             short_path(cube, 5, 5).points],
            [4, 2, (1, 2), (5,)],
        )
        self.refuses(Misfit, {"part": "board"}, short_path, tent, 0, 1)

    def test_is_board(self):
        for solid in boards():
            self.assertIs(is_board(solid=solid), True)
        seen = {True: 0, False: 0}
        for solid in solids():
            wanted = {number for point in solid.points for number in point} <= {0, 1}
            self.assertIs(is_board(solid), wanted)
            seen[wanted] += 1
        self.assertGreater(min(seen.values()), 3)
        # One number at one place is no nought or one.
        for at in range(8):
            for place in range(3):
                for number in (2, -1, GREAT):
                    points = [list(point) for point in CUBE]
                    if points[at][place] == (1 if number > 0 else 0):
                        points[at][place] = number
                        self.assertIs(is_board(Solid([*points[:at], *points[at + 1:], points[at]])), False)

    def test_the_samples(self):
        self.assertEqual({solid.dimension for solid in boards()}, {2, 3, 4, 5})
        self.assertGreater(len([solid for solid in boards() if len(solid.points) < 2 ** solid.dimension]), 20)

    def test_agreeing(self):
        for solid in (*solids()[::2], *boards()[::3]):
            for one, other in product(range(len(solid.points)), repeat=2):
                told = agreeing(other=other, one=one, solid=solid)
                self.assertIs(type(told), tuple)
                self.assertEqual(told, tuple(sorted(agree(solid.points, one, other))))

    def test_refused(self):
        cube, tent = Solid(CUBE), Solid(TENT)
        for call, other in ((agreeing, tent), (short_path, tent), (short_path, cube), (agreeing, cube)):
            many = len(other.points)
            for value in NO_NUMBERS + (many, -many):
                self.refuses(BadNumber, {"part": "one"}, call, other, value, 0)
                self.refuses(BadNumber, {"part": "one"}, call, other, value, value)
                self.refuses(BadNumber, {"part": "other"}, call, other, 0, value)
            for value in NO_SOLIDS:
                self.refuses(BadSolid, {"part": "solid"}, call, value, 0, 0)
                self.refuses(BadSolid, {"part": "solid"}, call, value, None, None)
        for value in NO_SOLIDS:
            self.refuses(BadSolid, {"part": "solid"}, is_board, value)


class ShortPathTest(Case):
    def test_all_pairs(self):
        for solid in boards():
            points = solid.points
            for one, other in product(range(len(points)), repeat=2):
                told = short_path(solid=solid, one=one, other=other)
                self.assertIs(type(told), Short)
                self.assertIs(type(told.points), tuple)
                self.assertEqual((told.points[0], told.points[-1]), (one, other))
                self.assertTrue(is_short(points, told.points, other))
                differ = solid.dimension - len(agree(points, one, other))
                self.assertLessEqual(len(told.points) - 1, differ)
                self.assertLessEqual(rings(points, one)[other], len(told.points) - 1)
                self.assertEqual(short_path(Solid([list(point) for point in points]), one, other), told)

    def test_whole_boards(self):
        for wide in (2, 3, 4):
            solid = Solid(board(wide))
            for one, other in product(range(2 ** wide), repeat=2):
                # At each step just one place changes.
                self.assertEqual(
                    len(short_path(solid, one, other).points) - 1, wide - len(agree(solid.points, one, other)),
                )

    def test_no_boards(self):
        for solid in solids():
            if not is_board(solid):
                for one, other in ((0, 0), (0, 1), (len(solid.points) - 1, 1)):
                    self.refuses(Misfit, {"part": "board"}, short_path, solid, one, other)


if __name__ == "__main__":
    unittest.main()
