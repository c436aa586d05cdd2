from spindleway.check_steps import shows_apart, shows_ways
from spindleway.errors import BadNumber, BadSolid, Misfit
from spindleway.papers import Denial, Paper
from spindleway.ridges import near
from spindleway.solids import Solid
from spindleway.steps import Apart, apart, steps_from
from spindleway.ways import Ways, ways
from tests.base import GREAT, ODD_VALUES, Case
from tests.samples import CUBE, RING, SOLIDS, TENT, cross

NO_NUMBERS = ODD_VALUES + ([], [0], (1,), -1, -2, -GREAT, GREAT)


class LikeApart(Apart):
    pass


class LikeWays(Ways):
    pass


NO_PAPERS = ODD_VALUES + (
    0, 7, [], (), [[0], [0]], ((0, 2, 3), (0, 1, 1, 2, 3, 2)), Apart, Ways,
    Paper("apart", (0, 2, 3), (0, 1, 1, 2, 3, 2)),
    Denial("apart", (0, 2, 3), (0, 1, 1, 2, 3, 2)), Paper("ways", ((0, 1, 5, 4, 3), (0, 2, 3))), Denial("no"),
    LikeApart((0, 2, 3), (0, 1, 1, 2, 3, 2)), LikeWays(((0, 1, 5, 4, 3), (0, 2, 3))),
)


class ShowsApartTest(Case):
    def test_examples(self):
        ring = Solid(RING)
        self.assertEqual(
            [shows_apart(ring, 0, 3, Apart([0, 2, 3], [0, 0, 1, 2, 1, 0])),
             shows_apart(ring, 0, 3, Apart([0, 2, 3], [-2, -1, -1, 0, 0, -1]))],
            [True, True],
        )
        self.assertEqual(
            [shows_apart(ring, 0, 3, Apart([0, 1, 5, 4, 3], [0, 1, 1, 2, 3, 2])),
             shows_apart(ring, 0, 3, Apart([0, 2, 3], [0, 2, 1, 2, 3, 2])),
             shows_apart(ring, 5, 5, Apart([5], [7, 7, 7, 7, 7, 7]))],
            [False, False, True],
        )

    def test_what_apart_returns(self):
        for points in SOLIDS:
            solid = Solid(points)
            last = len(solid.sides) - 1
            for one, other in ((0, last), (last, 0), (1, 2), (0, 0), (last // 2, last)):
                told = apart(solid, one, other)
                self.assertIs(shows_apart(solid, one, other, told), True)
                self.assertIs(shows_apart(value=told, other=other, one=one, solid=solid), True)
                turned = Apart(told.walk[::-1], [-number for number in told.numbers])
                self.assertIs(shows_apart(solid, other, one, turned), True)
                if one != other:
                    self.assertIs(shows_apart(solid, other, one, told), False)
                    self.assertIs(shows_apart(solid, one, one, told), False)

    def test_other_right_papers(self):
        ring = Solid(RING)
        for more in (0, 1, -7, GREAT, 10 ** 500):
            numbers = [number + more for number in (0, 1, 1, 2, 3, 2)]
            # From 0 to 4 of the ring there are two walks of three steps.
            self.assertIs(shows_apart(ring, 0, 4, Apart([0, 1, 5, 4], numbers)), True)
            self.assertIs(shows_apart(ring, 0, 4, Apart((0, 2, 3, 4), tuple(numbers))), True)
        self.assertIs(shows_apart(ring, 2, 2, Apart([2], [0, 1, 0, -1, -1, 0])), True)
        self.assertIs(shows_apart(ring, 0, 1, Apart([0, 1], [0, 1, 0, 1, 1, 1])), True)
        cube = Solid(CUBE)
        far = steps_from(cube, 0).index(2)
        for by in near(cube, 0):
            self.assertIs(shows_apart(cube, 0, far, Apart([0, by, far], steps_from(cube, 0))), True)

    def test_numbers_bent_at_any_place(self):
        ring = Solid(RING)
        right = (0, 1, 1, 2, 3, 2)
        for at in range(6):
            for value in ODD_VALUES + ([], [right[at]], 9, -9, GREAT):
                bent = (*right[:at], value, *right[at + 1:])
                self.assertIs(shows_apart(ring, 0, 4, Apart([0, 1, 5, 4], bent)), False)
        # The first and the last worth, moved by one either way: not as many as the walk has steps.
        for at in (0, 4):
            for more in (1, -1):
                bent = (*right[:at], right[at] + more, *right[at + 1:])
                self.assertIs(shows_apart(ring, 0, 4, Apart([0, 1, 5, 4], bent)), False)
        for bent in (right[:-1], (*right, 2), (), (0,), right[::-1], [right], {}, "011232"):
            self.assertIs(shows_apart(ring, 0, 4, Apart([0, 1, 5, 4], bent)), False)

    def test_walks_bent_at_any_place(self):
        ring = Solid(RING)
        numbers = (0, 1, 1, 2, 3, 2)
        walk = (0, 1, 5, 4)
        for at in range(4):
            others = [side for side in range(6) if side != walk[at]]
            for value in ODD_VALUES + ([], [walk[at]], -1, -6, 6, GREAT, *others):
                bent = (*walk[:at], value, *walk[at + 1:])
                self.assertIs(shows_apart(ring, 0, 4, Apart(bent, numbers)), False)
        for bent in (
            (), (0,), (4,), (0, 4), (0, 1, 5), (1, 5, 4), (0, 1, 0, 1, 5, 4), (0, 0, 1, 5, 4), (0, 1, 5, 4, 4), (walk,),
        ):
            self.assertIs(shows_apart(ring, 0, 4, Apart(bent, numbers)), False)
        for value in NO_PAPERS:
            self.assertIs(shows_apart(ring, 0, 4, Apart(value, numbers)), False)
            self.assertIs(shows_apart(ring, 0, 4, Apart(walk, value)), False)

    def test_true_and_false_are_no_numbers(self):
        ring = Solid(RING)
        self.assertIs(shows_apart(ring, 0, 1, Apart([0, 1], [0, 1, 1, 2, 3, 2])), True)
        self.assertIs(shows_apart(ring, 0, 1, Apart([False, 1], [0, 1, 1, 2, 3, 2])), False)
        self.assertIs(shows_apart(ring, 0, 1, Apart([0, True], [0, 1, 1, 2, 3, 2])), False)
        self.assertIs(shows_apart(ring, 0, 1, Apart([0, 1], [False, 1, 1, 2, 3, 2])), False)
        self.assertIs(shows_apart(ring, 0, 1, Apart([0, 1], [0, True, 1, 2, 3, 2])), False)
        self.assertIs(shows_apart(ring, 0, 1, Apart([0, 1], [0, 1, True, 2, 3, 2])), False)

    def test_values_that_are_no_such_papers(self):
        ring = Solid(RING)
        for value in NO_PAPERS + (ways(ring, 0, 3),):
            self.assertIs(shows_apart(ring, 0, 3, value), False)

    def test_refused_ahead_of_the_value(self):
        ring = Solid(RING)
        for paper in (None, apart(ring, 0, 3)):
            for value in NO_NUMBERS + (6,):
                self.refuses(BadNumber, {"part": "one"}, shows_apart, ring, value, value, paper)
                self.refuses(BadNumber, {"part": "other"}, shows_apart, ring, 0, value, paper)
            for value in ODD_VALUES + (RING,):
                self.refuses(BadSolid, {"part": "solid"}, shows_apart, value, None, None, paper)


class ShowsWaysTest(Case):
    def test_examples(self):
        peak, ring = Solid(TENT), Solid(RING)
        self.assertEqual(
            [shows_ways(peak, 1, 2, Ways([[1, 3, 4, 2], [1, 2], [1, 0, 2]])),
             shows_ways(peak, 1, 2, Ways([[1, 2], [1, 2], [1, 0, 2]])),
             shows_ways(peak, 1, 2, Ways([[1, 2], [1, 0, 2]]))],
            [True, False, False],
        )
        self.refuses(Misfit, {"part": "sides"}, shows_ways, ring, 1, 1, None)

    def test_what_ways_returns(self):
        for points in SOLIDS:
            solid = Solid(points)
            last = len(solid.sides) - 1
            for one, other in ((0, last), (last, 0), (1, 2), (last // 2, last)):
                told = ways(solid, one, other)
                self.assertIs(shows_ways(solid, one, other, told), True)
                self.assertIs(shows_ways(value=Ways(told.walks[::-1]), other=other, one=one, solid=solid), True)
                self.assertIs(shows_ways(solid, other, one, Ways([walk[::-1] for walk in told.walks])), True)
                self.assertIs(shows_ways(solid, other, one, told), False)
                self.assertIs(shows_ways(solid, one, other, Ways(told.walks[1:])), False)
                self.assertIs(shows_ways(solid, one, other, Ways(told.walks + told.walks[:1])), False)
                self.assertIs(shows_ways(solid, one, other, Ways(told.walks[:-1] + told.walks[:1])), False)

    def test_longer_walks(self):
        solid = Solid(cross(3))
        # The eight sides are those of a cube turned round: walks may go about it.
        right = [(0, 1, 3), (0, 2, 3), (0, 4, 5, 7, 3)]
        for value in (Ways(right), Ways([[*walk] for walk in right])):
            self.assertIs(shows_ways(solid, 0, 3, value), True)
        for at in range(3):
            for bent in (right[:at] + right[at + 1:], right[:at] + [right[at - 1]] + right[at + 1:]):
                self.assertIs(shows_ways(solid, 0, 3, Ways(bent)), False)

    def test_walks_bent_at_any_place(self):
        peak = Solid(TENT)
        right = ((1, 3, 4, 2), (1, 2), (1, 0, 2))
        for at, walk in enumerate(right):
            for place in range(len(walk)):
                others = [side for side in range(5) if side != walk[place]]
                for value in ODD_VALUES + ([], [1], -1, -4, 5, GREAT, *others):
                    bent = (*walk[:place], value, *walk[place + 1:])
                    self.assertIs(shows_ways(peak, 1, 2, Ways((*right[:at], bent, *right[at + 1:]))), False)
            for value in NO_PAPERS + ((1,), (2,), walk[::-1], walk[:-1], walk[1:], (1, *walk), (*walk, 2), (walk,)):
                self.assertIs(shows_ways(peak, 1, 2, Ways((*right[:at], value, *right[at + 1:]))), False)
        for value in NO_PAPERS + (right[:2], (*right, (1, 2)), right[::-1] + ((1, 3, 2),), (right,)):
            self.assertIs(shows_ways(peak, 1, 2, Ways(value)), False)

    def test_sides_that_are_shared(self):
        cube = Solid(CUBE)
        far = steps_from(cube, 0).index(2)
        by = near(cube, 0)
        walks = [(0, side, far) for side in by]
        self.assertIs(shows_ways(cube, 0, far, Ways(walks[:3])), True)
        self.assertIs(shows_ways(cube, 0, far, Ways(walks[1:])), True)
        self.assertIs(shows_ways(cube, 0, far, Ways(walks)), False)
        self.assertIs(shows_ways(cube, 0, far, Ways([walks[0], walks[0], walks[1]])), False)

    def test_a_longer_walk_about_the_cube(self):
        cube = Solid(CUBE)
        far = steps_from(cube, 0).index(2)
        first = near(cube, 0)[0]
        behind = steps_from(cube, first).index(2)
        second, other = [side for side in near(cube, 0) if side not in (first, behind)]
        long = (0, first, second, far)
        self.assertIs(shows_ways(cube, 0, far, Ways([long, (0, other, far), (0, behind, far)])), True)
        # A side in two walks.
        self.assertIs(shows_ways(cube, 0, far, Ways([long, (0, second, far), (0, behind, far)])), False)
        # A side twice in one walk; the first and the last side within a walk.
        for walk in (
            (0, first, second, first, far), (0, first, 0, second, far), (0, first, far, second, far),
        ):
            self.assertIs(shows_ways(cube, 0, far, Ways([walk, (0, other, far), (0, behind, far)])), False)

    def test_true_and_false_are_no_numbers(self):
        ring = Solid(RING)
        self.assertIs(shows_ways(ring, 0, 1, Ways([[0, 1], [0, 2, 3, 4, 5, 1]])), True)
        self.assertIs(shows_ways(ring, 0, 1, Ways([[False, 1], [0, 2, 3, 4, 5, 1]])), False)
        self.assertIs(shows_ways(ring, 0, 1, Ways([[0, True], [0, 2, 3, 4, 5, 1]])), False)
        self.assertIs(shows_ways(ring, 0, 1, Ways([[0, 1], [0, 2, 3, 4, 5, True]])), False)

    def test_values_that_are_no_such_papers(self):
        ring = Solid(RING)
        for value in NO_PAPERS + (apart(ring, 0, 3),):
            self.assertIs(shows_ways(ring, 0, 3, value), False)

    def test_refused_ahead_of_the_value(self):
        ring = Solid(RING)
        for paper in (None, ways(ring, 0, 3)):
            for value in NO_NUMBERS + (6,):
                self.refuses(BadNumber, {"part": "one"}, shows_ways, ring, value, value, paper)
                self.refuses(BadNumber, {"part": "other"}, shows_ways, ring, 0, value, paper)
            for side in range(6):
                self.refuses(Misfit, {"part": "sides"}, shows_ways, ring, side, side, paper)
            for value in ODD_VALUES + (RING,):
                self.refuses(BadSolid, {"part": "solid"}, shows_ways, value, None, None, paper)
                self.refuses(BadSolid, {"part": "solid"}, shows_ways, value, 1, 1, paper)
