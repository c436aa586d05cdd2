import unittest
from itertools import permutations, product

from spindleway.boards import Short, is_board, short_path
from spindleway.check_corners import shows_best, shows_path, shows_short
from spindleway.corners import Path, path
from spindleway.errors import BadNumber, BadSolid, Misfit
from spindleway.papers import Denial, Paper
from spindleway.solids import Solid
from spindleway.steps import Apart
from spindleway.sums import Best, best
from tests.base import GREAT, ODD_VALUES, Case
from tests.corner_base import NO_NUMBERS, NO_SOLIDS, boards, is_path, lanes, rings, solids
from tests.samples import CUBE, TENT, noise
from tests.test_boards import FOUR, is_short
from tests.test_sums import is_best, some_rows

NO_SIDES = ODD_VALUES + ([], -1, GREAT, -GREAT)


class LikePath(Path):
    pass


class LikeShort(Short):
    pass


class LikeBest(Best):
    pass


def bent_at(values, at, value):
    return (*values[:at], value, *values[at + 1:])


class ShowsPathTest(Case):
    def test_examples(self):
        tent = Solid(TENT)
        self.assertEqual(
            [shows_path(tent, 1, 2, Path([1, 4, 2], [1, 0, 2, 1, 1])),
             shows_path(tent, 1, 2, Path([1, 4, 2], [0, -1, 1, 0, 0])),
             shows_path(tent, 1, 2, Path([1, 0, 3, 2], [1, 0, 3, 2, 1])),
             shows_path(tent, 1, 2, Path([1, 2], [0, 0, 1, 0, 0]))],
            [True, True, False, False],
        )

    def test_what_path_returns(self):
        for solid in solids():
            last = len(solid.points) - 1
            for one, other in ((0, last), (last, 0), (1, 2), (0, 0), (last // 2, last)):
                told = path(solid, one, other)
                self.assertIs(shows_path(solid, one, other, told), True)
                self.assertIs(shows_path(value=told, other=other, one=one, solid=solid), True)
                back = Path(told.points[::-1], [-number for number in told.numbers])
                self.assertIs(shows_path(solid, other, one, back), True)
                if one != other:
                    self.assertIs(shows_path(solid, other, one, told), False)
                    self.assertIs(shows_path(solid, one, one, told), False)

    def test_other_right_papers(self):
        for solid in solids()[::3]:
            points = solid.points
            for one, other in ((0, len(points) - 1), (1, 2)):
                told = path(solid, one, other)
                # The steps that are left, turned about; numbers moved; another path of as few steps.
                left = [-number for number in rings(points, other)]
                for numbers in (left, [number + GREAT for number in told.numbers]):
                    self.assertIs(shows_path(solid, one, other, Path(told.points, numbers)), True)
                steps = len(told.points) - 1
                between = [at for at in range(len(points)) if at not in (one, other)]
                for middle in list(permutations(between, steps - 1))[:200] if steps in (2, 3) else ():
                    tried = (one, *middle, other)
                    self.assertIs(shows_path(solid, one, other, Path(tried, left)), is_path(points, tried))

    def test_more_steps_than_there_must_be(self):
        cube = Solid(CUBE)
        for points in ((0, 1, 0, 2, 6, 7), (0, 1, 3, 2, 6, 7), (0, 1, 3, 7, 5, 7), (0, 7), (0, 3, 7)):
            self.assertIs(shows_path(cube, 0, 7, Path(points, rings(CUBE, 0))), False)
        self.assertIs(shows_path(cube, 0, 0, Path((0, 1, 0), rings(CUBE, 0))), False)
        self.assertIs(shows_path(cube, 0, 0, Path((0,), [5] * 8)), True)

    def test_bent_at_any_place(self):
        cube = Solid(CUBE)
        told = path(cube, 0, 7)
        for at in range(4):
            for value in NO_SIDES + (8, told.points[at] - 8, [told.points[at]], float(told.points[at])):
                self.assertIs(shows_path(cube, 0, 7, Path(bent_at(told.points, at, value), told.numbers)), False)
        for at in range(8):
            for value in NO_SIDES + ([told.numbers[at]], float(told.numbers[at]), told.numbers[at] + 3):
                self.assertIs(shows_path(cube, 0, 7, Path(told.points, bent_at(told.numbers, at, value))), False)
        for at in (0, 7):
            bent = bent_at(told.numbers, at, told.numbers[at] + (1 if at == 0 else -1))
            self.assertIs(shows_path(cube, 0, 7, Path(told.points, bent)), False)
        for value in ODD_VALUES + (0, (), (0,), (7,), told.points[:-1], told.points[1:], (told.points,)):
            self.assertIs(shows_path(cube, 0, 7, Path(value, told.numbers)), False)
        for value in ODD_VALUES + (0, (), told.numbers[:-1], (*told.numbers, 3), (told.numbers,), [0] * 8):
            self.assertIs(shows_path(cube, 0, 7, Path(told.points, value)), False)

    def test_true_is_no_number(self):
        cube = Solid(CUBE)
        self.assertEqual(Path((False, True), (0, True, 1, 2, 1, 2, 2, 3)), Path((0, 1), (0, 1, 1, 2, 1, 2, 2, 3)))
        for points, numbers in (((0, True), rings(CUBE, 0)), ((0, 1), (False, *rings(CUBE, 0)[1:]))):
            self.assertIs(shows_path(cube, 0, 1, Path(points, numbers)), False)

    def test_values_that_are_no_such_papers(self):
        cube = Solid(CUBE)
        told = path(cube, 0, 7)
        for value in ODD_VALUES + (
            0, told.parts, list(told.parts), told.points, Path, Paper("path", *told.parts), Denial("path", *told.parts),
            LikePath(*told.parts), Apart(*told.parts), Short(told.points), [told],
        ):
            self.assertIs(shows_path(cube, 0, 7, value), False)

    def test_refused_ahead_of_the_value(self):
        cube = Solid(CUBE)
        for paper in (None, path(cube, 0, 7)):
            for value in NO_NUMBERS + (8, -8):
                self.refuses(BadNumber, {"part": "one"}, shows_path, cube, value, 0, paper)
                self.refuses(BadNumber, {"part": "one"}, shows_path, cube, value, value, paper)
                self.refuses(BadNumber, {"part": "other"}, shows_path, cube, 0, value, paper)
            for value in NO_SOLIDS:
                self.refuses(BadSolid, {"part": "solid"}, shows_path, value, None, None, paper)


class ShowsShortTest(Case):
    def test_examples(self):
        cube = Solid(CUBE)
        self.assertEqual(
            [shows_short(cube, 0, 7, Short([0, 2, 3, 7])), shows_short(cube, 0, 7, Short([0, 2, 0, 4, 5, 7])),
             shows_short(cube, 0, 3, Short([0, 4, 6, 7, 3]))],
            [True, False, False],
        )

    def test_all_paths(self):
        seen = {True: 0, False: 0}
        for solid in boards()[::3]:
            points = solid.points
            many = len(points)
            for one, other in ((0, many - 1), (many - 1, 0), (many // 2, 0), (1, 1)):
                self.assertIs(shows_short(solid, one, other, short_path(solid, one, other)), True)
                for tried in self.some_paths(points, one, other):
                    right = is_short(points, tried, other)
                    self.assertIs(shows_short(value=Short(tried), other=other, one=one, solid=solid), right)
                    seen[right] += 1
        self.assertGreater(min(seen.values()), 50)

    def some_paths(self, points, one, other):
        """Paths of at most four steps, up to two hundred of them."""
        paths, found = [(one,)], []
        for _ in range(5):
            found.extend([each for each in paths if each[-1] == other])
            paths = [(*each, at) for each in paths for at in lanes(points)[each[-1]]][:2000]
        return found[:200]

    def test_bent_at_any_place(self):
        cube, four = Solid(CUBE), Solid(FOUR)
        told = short_path(cube, 0, 7).points
        for at in range(4):
            for value in NO_SIDES + (8, told[at] - 8, [told[at]], float(told[at])):
                self.assertIs(shows_short(cube, 0, 7, Short(bent_at(told, at, value))), False)
        for value in ODD_VALUES + (0, (), (0,), (7,), (0, 7), told[:-1], told[1:], told[::-1], (told,)):
            self.assertIs(shows_short(cube, 0, 7, Short(value)), False)
        self.assertIs(shows_short(four, 1, 2, Short([1, 2])), True)
        self.assertIs(shows_short(four, 1, 2, Short([True, 2])), False)
        self.assertIs(shows_short(four, 1, 2, Short([1, 1, 2])), False)

    def test_values_that_are_no_such_papers(self):
        cube = Solid(CUBE)
        told = short_path(cube, 0, 7).points
        for value in ODD_VALUES + (
            0, told, list(told), (told,), Short, Paper("short", told), Denial("short", told), LikeShort(told),
            Path(told, rings(CUBE, 0)),
        ):
            self.assertIs(shows_short(cube, 0, 7, value), False)

    def test_refused_ahead_of_the_value(self):
        cube = Solid(CUBE)
        for paper in (None, Short([0, 2, 3, 7])):
            for value in NO_NUMBERS + (8, -8):
                self.refuses(BadNumber, {"part": "one"}, shows_short, cube, value, 0, paper)
                self.refuses(BadNumber, {"part": "other"}, shows_short, cube, 0, value, paper)
            for value in NO_SOLIDS:
                self.refuses(BadSolid, {"part": "solid"}, shows_short, value, None, None, paper)
            for solid in solids():
                if not is_board(solid):
                    self.refuses(Misfit, {"part": "board"}, shows_short, solid, 0, 1, paper)
                    self.refuses(BadNumber, {"part": "other"}, shows_short, solid, 0, None, paper)


class ShowsBestTest(Case):
    def test_examples(self):
        cube = Solid(CUBE)
        self.assertEqual(
            [shows_best(cube, [1, 2, -1], 1, Best([1, 3, 2, 6], (0, 0, 3, 0, 6, 3), 3)),
             shows_best(cube, [1, 2, -1], 1, Best([1, 3, 2], [0, 0, 1, 0, 2, 1], 1)),
             shows_best(cube, [1, 0, 0], 0, Best([0, 4], [0, 0, 0, 0, 0, 1], 1))],
            [True, False, True],
        )

    def test_what_best_returns(self):
        for seed, solid in enumerate(solids()):
            for row in some_rows(solid, seed):
                for start in (0, seed % len(solid.points)):
                    told = best(solid, row, start)
                    self.assertIs(shows_best(solid, row, start, told), True)
                    self.assertIs(shows_best(value=told, start=start, row=tuple(row), solid=solid), True)
                    many = Best(told.points, [5 * weight for weight in told.weights], 5 * told.by)
                    self.assertIs(shows_best(solid, row, start, many), True)
                    other = [3 * number for number in row]
                    more = Best(told.points, [3 * weight for weight in told.weights], told.by)
                    self.assertIs(shows_best(solid, other, start, more), True)

    def test_bent_papers(self):
        seen = {True: 0, False: 0}
        for seed, solid in enumerate(solids()):
            for row in some_rows(solid, seed)[1:6]:
                told = best(solid, row, 0)
                for tried in self.like_ones(solid, seed, told):
                    right = is_best(solid, row, 0, tried)
                    self.assertIs(shows_best(solid, row, 0, tried), right)
                    seen[right] += 1
        self.assertGreater(seen[False], 500)
        self.assertGreater(seen[True], 20)

    def like_ones(self, solid, seed, told):
        """Nearly the same papers: most of them wrong, some of them right."""
        points, weights, by = told.parts
        many = len(solid.points)
        yield Best(points, weights, by + 1)
        yield Best(points, [-weight for weight in weights], by)
        for at in range(len(weights)):
            yield Best(points, bent_at(weights, at, weights[at] + 1), by)
            yield Best(points, bent_at(weights, at, weights[at] - 1), by)
        for at in noise(seed, 3, many):
            yield Best((points[0], at % many, *points[1:]), weights, by)
            yield Best((*points, at % many), weights, by)
        yield Best(points[:-1] or (1,), weights, by)
        yield Best((points[0], points[-1]), weights, by)

    def test_another_row_made_the_same_way(self):
        # At the top of tent four sides make (0, 0, 2) in many ways.
        tent = Solid(TENT)
        for one, other in ((1, 0), (0, 1), (3, 4), (7, 0)):
            weights = (0, one, other, other, one)
            by = one + other
            self.assertIs(shows_best(tent, [0, 0, 2], 4, Best([4], weights, by)), True)
            self.assertIs(shows_best(tent, [0, 0, 2], 0, Best([0, 4], weights, by)), True)
            self.assertIs(shows_best(tent, [0, 0, 2], 0, Best([0, 1, 4], weights, by)), False)
            self.assertIs(shows_best(tent, [0, 0, 2], 4, Best([4], (0, one, other, one, other), by)), one == other)

    def test_weights_below_nought_and_by_nought(self):
        tent, cube = Solid(TENT), Solid(CUBE)
        # They add up, all the same.
        self.assertIs(shows_best(tent, [0, 0, 2], 4, Best([4], (0, 2, -1, -1, 2), 1)), False)
        self.assertIs(shows_best(tent, [0, 0, -2], 4, Best([4], (0, -1, 0, 0, -1), 1)), False)
        self.assertIs(shows_best(tent, [0, 0, -2], 4, Best([4], (0, 1, 0, 0, 1), -1)), False)
        for row in ([1, 2, -1], [0, 0, 0]):
            self.assertIs(shows_best(cube, row, 6, Best([6], [0] * 6, 0)), False)

    def test_weights_where_the_last_point_is_not(self):
        # The rows of two sides that lie across from one another cancel: no such weights may stand.
        cube = Solid(CUBE)
        self.assertIs(shows_best(cube, [0, 0, 0], 0, Best([0], [0] * 6, 1)), True)
        self.assertIs(shows_best(cube, [0, 0, 0], 0, Best([0], [1, 0, 0, 0, 0, 1], 1)), False)
        self.assertIs(shows_best(cube, [1, 0, 0], 4, Best([4], [1, 0, 0, 0, 0, 2], 1)), False)
        self.assertIs(shows_best(cube, [1, 0, 0], 4, Best([4], [0, 0, 0, 0, 0, 1], 1)), True)

    def test_bent_at_any_place(self):
        cube, row = Solid(CUBE), [1, 2, -1]
        told = best(cube, row, 1)
        points, weights, by = told.parts
        for at in range(len(points)):
            for value in NO_SIDES + (8, points[at] - 8, [points[at]], float(points[at])):
                self.assertIs(shows_best(cube, row, 1, Best(bent_at(points, at, value), weights, by)), False)
        for at in range(6):
            for value in NO_SIDES + ([weights[at]], float(weights[at]), weights[at] + 1):
                self.assertIs(shows_best(cube, row, 1, Best(points, bent_at(weights, at, value), by)), False)
        for value in ODD_VALUES + (0, -1, by + 1, [by], float(by), (by,)):
            self.assertIs(shows_best(cube, row, 1, Best(points, weights, value)), False)
        for value in ODD_VALUES + (0, (), (1,), (6,), (points,), points[::-1], points[:-1]):
            self.assertIs(shows_best(cube, row, 1, Best(value, weights, by)), False)
        for value in ODD_VALUES + (0, (), weights[:-1], (*weights, 0), (weights,), [0] * 6):
            self.assertIs(shows_best(cube, row, 1, Best(points, value, by)), False)

    def test_true_is_no_number(self):
        cube = Solid(CUBE)
        right = Best((1, 3, 2, 6), (0, 0, 1, 0, 2, 1), 1)
        self.assertIs(shows_best(cube, [1, 2, -1], 1, right), True)
        for wrong in (
            Best((True, 3, 2, 6), right.weights, 1), Best(right.points, (False, 0, 1, 0, 2, 1), 1),
            Best(right.points, (0, 0, True, 0, 2, 1), 1), Best(right.points, right.weights, True),
        ):
            self.assertEqual(wrong, right)
            self.assertIs(shows_best(cube, [1, 2, -1], 1, wrong), False)

    def test_values_that_are_no_such_papers(self):
        cube = Solid(CUBE)
        parts = ((1, 3, 2, 6), (0, 0, 1, 0, 2, 1), 1)
        for value in ODD_VALUES + (
            0, parts, list(parts), Best, Paper("best", *parts), Denial("best", *parts), LikeBest(*parts), Short(parts[0]),
            Path(*parts[:2]), [Best(*parts)],
        ):
            self.assertIs(shows_best(cube, [1, 2, -1], 1, value), False)

    def test_refused_ahead_of_the_value(self):
        cube = Solid(CUBE)
        for paper in (None, Best((1, 3, 2, 6), (0, 0, 1, 0, 2, 1), 1)):
            for value in ODD_VALUES + (1, [], [1, 1], [1] * 4, [1, 1, True], [None, 1, 1], [1.0, 1, 1]):
                for start in (0, None):
                    self.refuses(BadNumber, {"part": "row"}, shows_best, cube, value, start, paper)
            for value in NO_NUMBERS + (8, -8):
                self.refuses(BadNumber, {"part": "start"}, shows_best, cube, [1, 2, -1], value, paper)
            for value in NO_SOLIDS:
                self.refuses(BadSolid, {"part": "solid"}, shows_best, value, None, None, paper)

    def test_every_point_and_row_of_a_small_one(self):
        ring = Solid([(0, 0), (2, 0), (3, 2), (1, 3), (-1, 1)])
        for row in product((-1, 0, 2), repeat=2):
            for start in range(5):
                told = best(ring, row, start)
                self.assertTrue(is_best(ring, row, start, told))
                for other in range(5):
                    self.assertIs(shows_best(ring, row, other, told), other == start)


if __name__ == "__main__":
    unittest.main()
