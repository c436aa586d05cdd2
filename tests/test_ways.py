from itertools import combinations

from spindleway.errors import BadLot, BadNumber, BadSolid, Misfit
from spindleway.papers import Denial, Paper
from spindleway.ridges import are_near, near
from spindleway.solids import Solid
from spindleway.ways import Ways, parted, ways
from tests.base import GREAT, ODD_VALUES, Case
from tests.samples import CUBE, RING, SOLIDS, TENT, curve

NO_NUMBERS = ODD_VALUES + ([], [0], (1,), -1, -2, -GREAT, GREAT)


class WaysPaperTest(Case):
    def test_fields(self):
        for made in (Ways([[0, 1], (0, [2])]), Ways(walks=((0, 1), [0, [2]]))):
            self.assertEqual((made.walks, made.word, made.parts), (((0, 1), (0, (2,))), "ways", (((0, 1), (0, (2,))),)))
            self.assertIs(bool(made), True)
        for value in ODD_VALUES + (7,):
            self.assertIs(Ways(value).walks, value)

    def test_class(self):
        self.assertTrue(issubclass(Ways, Paper))
        self.assertFalse(issubclass(Ways, Denial))
        self.assertIs(Ways([[0]]) == Ways(((0,),)), True)
        self.assertIs(Ways([[0]]) == Ways([[1]]), False)
        self.assertIs(Ways([[0]]) == Paper("ways", [[0]]), False)


class WaysTest(Case):
    def test_examples(self):
        ring, peak = Solid(RING), Solid(TENT)
        self.assertEqual(
            [sorted(ways(ring, 0, 4).walks), sorted(ways(peak, 1, 4).walks), sorted(ways(peak, 1, 2).walks)],
            [[(0, 1, 5, 4), (0, 2, 3, 4)], [(1, 0, 4), (1, 2, 4), (1, 3, 4)], [(1, 0, 2), (1, 2), (1, 3, 4, 2)]],
        )
        self.refuses(Misfit, {"part": "sides"}, ways, peak, 2, 2)

    def check_ways(self, solid, one, other):
        told = ways(solid, one, other)
        self.assertIs(type(told), Ways)
        self.assertEqual(len(told.walks), solid.dimension)
        inner = []
        for walk in told.walks:
            self.assertIs(type(walk), tuple)
            self.assertEqual((walk[0], walk[-1]), (one, other))
            self.assertTrue(all(are_near(solid, *pair) for pair in zip(walk, walk[1:])))
            inner.extend(walk[1:-1])
        self.assertEqual(len(set(inner)), len(inner))
        self.assertFalse({one, other} & set(inner))
        self.assertLessEqual([len(walk) for walk in told.walks].count(2), int(are_near(solid, one, other)))
        return told

    def test_all_pairs(self):
        for points in SOLIDS:
            solid = Solid(points)
            for one in range(len(solid.sides)):
                for other in range(len(solid.sides)):
                    if one != other:
                        self.check_ways(solid, one, other)

    def test_pairs_of_greater_solids(self):
        for wide, many in ((3, 16), (4, 12), (5, 10), (6, 10)):
            solid = Solid(curve(wide, many))
            for one in range(0, len(solid.sides), 7):
                for other in (0, near(solid, one)[0], near(solid, one)[-1], len(solid.sides) - 1):
                    if one != other:
                        self.check_ways(solid, one, other)

    def test_equal_calls_return_equal_papers(self):
        one, other = Solid(CUBE), Solid([list(point) for point in CUBE])
        for side in range(1, 6):
            self.assertEqual(ways(one, 0, side), ways(solid=other, other=side, one=0))

    def test_refused(self):
        ring = Solid(RING)
        for value in NO_NUMBERS + (6, 7):
            self.refuses(BadNumber, {"part": "one"}, ways, ring, value, 0)
            self.refuses(BadNumber, {"part": "other"}, ways, ring, 0, value)
            self.refuses(BadNumber, {"part": "one"}, ways, ring, value, value)
        for side in range(6):
            self.refuses(Misfit, {"part": "sides"}, ways, ring, side, side)
        for value in ODD_VALUES + (RING, 3):
            self.refuses(BadSolid, {"part": "solid"}, ways, value, None, None)
            self.refuses(BadSolid, {"part": "solid"}, ways, value, 2, 2)


class PartedTest(Case):
    def test_examples(self):
        ring, peak = Solid(RING), Solid(TENT)
        self.assertEqual(
            [parted(ring, [0, 4]), parted(ring, []), parted(ring, (5,)), parted(peak, [0, 2, 3]), parted(peak, [1, 4]),
             parted(peak, [0, 1, 2, 3, 4])],
            [((1, 5), (2, 3)), ((0, 1, 2, 3, 4, 5),), ((0, 1, 2, 3, 4),), ((1,), (4,)), ((0, 2, 3),), ()],
        )
        self.refuses(BadLot, {"part": "gone"}, parted, ring, [4, 0])

    def pieces(self, solid, gone):
        """By joining pieces as long as two of them have neighbours."""
        found = [{side} for side in range(len(solid.sides)) if side not in gone]
        for one in range(len(solid.sides)):
            for other in near(solid, one):
                with_one = [piece for piece in found if one in piece]
                with_other = [piece for piece in found if other in piece]
                if with_one and with_other and with_one != with_other:
                    found.remove(with_other[0])
                    with_one[0] |= with_other[0]
        return tuple(sorted(tuple(sorted(piece)) for piece in found))

    def test_none_some_and_all_gone(self):
        for points in SOLIDS:
            solid = Solid(points)
            many = len(solid.sides)
            self.assertEqual(parted(solid, []), (tuple(range(many)),))
            self.assertEqual(parted(solid, list(range(many))), ())
            for side in range(many):
                rest = [other for other in range(many) if other != side]
                self.assertEqual(parted(solid, rest), ((side,),))
                self.assertEqual(parted(solid, near(solid, side)), self.pieces(solid, near(solid, side)))
                self.assertIn((side,), parted(solid, near(solid, side)))
            for step in (2, 3):
                gone = tuple(range(0, many, step))
                self.assertEqual(parted(solid, gone), self.pieces(solid, gone))

    def test_every_lot(self):
        for points in (TENT, RING, CUBE):
            solid = Solid(points)
            for many in range(len(solid.sides) + 1):
                for gone in combinations(range(len(solid.sides)), many):
                    told = parted(solid, gone)
                    self.assertEqual(told, self.pieces(solid, gone))
                    if many < solid.dimension:
                        self.assertEqual(len(told), 1)

    def test_tuples_and_names(self):
        ring = Solid(RING)
        gone = [0, 4]
        told = parted(gone=gone, solid=ring)
        self.assertEqual(gone, [0, 4])
        for value in (told, *told):
            self.assertIs(type(value), tuple)

    def test_refused(self):
        ring = Solid(RING)
        for value in ODD_VALUES + (
            0, [6], [0, 6], [-1], [-1, 0], [1, 1], [2, 1], [True], [0, None], [[0]], [0, 1.0], [GREAT],
        ):
            self.refuses(BadLot, {"part": "gone"}, parted, ring, value)
        for value in ODD_VALUES + (RING, 3):
            self.refuses(BadSolid, {"part": "solid"}, parted, value, [])
            self.refuses(BadSolid, {"part": "solid"}, parted, value, None)
