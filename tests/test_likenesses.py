from itertools import permutations, product

from spindleway.errors import BadLikeness, BadLot, BadNumber, BadPoint, Misfit, TooMany
from spindleway.fortyeight import Long
from spindleway.likenesses import Likeness, kinds_of, likenesses_of
from spindleway.solids import Solid
from spindleway.spindles import Spindle
from tests.base import GREAT, ODD_VALUES, Case
from tests.samples import board, cross
from tests.spindle_samples import PRISM

SQUARE = ((1, 1), (1, -1), (-1, 1), (-1, -1))
TURN = Likeness((1, 0), (1, -1))
MIRROR = Likeness((0, 1), (1, -1))


def all_likenesses(wide):
    """All of so many places, in no order that matters."""
    return [Likeness(places, signs) for places in permutations(range(wide)) for signs in product((1, -1), repeat=wide)]


def turned(wide, place):
    """The likeness that turns about one sign."""
    return Likeness(list(range(wide)), [-1 if at == place else 1 for at in range(wide)])


def rolled(wide):
    """The likeness that moves each place on by one."""
    return Likeness([(at + 1) % wide for at in range(wide)], [1] * wide)


def made_by_definition(given, wide):
    """What comes of given ones, one behind another, told by what becomes of a point of no likeness to itself."""
    start = tuple(range(1, wide + 1))
    found = {start}
    front = [start]
    while front:
        front = [told for told in {each.led(point) for point in front for each in given} if told not in found]
        found.update(front)
    return {
        (tuple(abs(number) - 1 for number in point), tuple(1 if number > 0 else -1 for number in point))
        for point in found
    }


class LikenessTest(Case):
    def test_examples(self):
        turn, mirror = Likeness([1, 0], [1, -1]), Likeness((0, 1), (1, -1))
        self.assertEqual(
            [turn.led((3, 5)), turn.then(turn).signs, turn.then(turn).places, turn.back().signs,
             turn.then(turn.back()) == Likeness.same(2), turn.wide],
            [(5, -3), (-1, -1), (0, 1), (-1, 1), True, 2],
        )
        self.assertEqual([mirror.led(point) for point in SQUARE], [(1, -1), (1, 1), (-1, -1), (-1, 1)])
        self.refuses(BadLikeness, {"part": "places"}, Likeness, [1, 2], [1, 1])

    def test_attributes(self):
        for wide in range(2, 7):
            for made in (
                Likeness(list(range(wide))[::-1], [-1] * wide), Likeness(signs=(-1,) * wide, places=tuple(range(wide))[::-1]),
            ):
                self.assertEqual((made.places, made.signs, made.wide), (tuple(range(wide))[::-1], (-1,) * wide, wide))
                self.assertIs(type(made.places), tuple)
                self.assertIs(type(made.signs), tuple)

    def test_led(self):
        for wide in (2, 3, 4):
            point = [3 + 2 ** at for at in range(wide)]
            for likeness in all_likenesses(wide):
                told = likeness.led(point=point)
                self.assertIs(type(told), tuple)
                for at in range(wide):
                    self.assertEqual(told[at], likeness.signs[at] * point[likeness.places[at]])
        self.assertEqual(Likeness((3, 2, 0, 1, 4), (1, 1, 1, 1, -1)).led((1, 2, 3, 4, 5)), (4, 3, 1, 2, -5))
        self.assertEqual(Likeness((5, 0, 1, 2, 3, 4), (-1,) * 6).led([GREAT, 0, 0, 0, 0, -GREAT]), (GREAT, -GREAT, 0, 0, 0, 0))

    def test_then_and_back(self):
        for wide in (2, 3):
            point = tuple(7 ** at for at in range(1, wide + 1))
            for one in all_likenesses(wide):
                self.assertEqual(one.back().led(one.led(point)), point)
                self.assertEqual(one.led(one.back().led(point)), point)
                self.assertEqual(one.then(one.back()), Likeness.same(wide))
                self.assertEqual(one.back().back(), one)
                for other in all_likenesses(wide):
                    self.assertEqual(one.then(other=other).led(point), other.led(one.led(point)))
                    self.assertEqual(one.then(other).back(), other.back().then(one.back()))

    def test_six_places(self):
        one, other = Likeness((5, 3, 1, 0, 2, 4), (1, -1, 1, -1, -1, 1)), Likeness((1, 2, 0, 4, 5, 3), (1, 1, 1, -1, -1, 1))
        point = (2, 3, 5, 7, 11, 13)
        self.assertEqual(one.then(other).led(point), other.led(one.led(point)))
        self.assertNotEqual(one.then(other), other.then(one))
        self.assertEqual(one.back().led(one.led(point)), point)

    def test_same(self):
        for wide in range(2, 7):
            self.assertEqual(Likeness.same(wide=wide), Likeness(list(range(wide)), [1] * wide))
            self.assertEqual(Likeness.same(wide).led([*range(wide)]), tuple(range(wide)))
        for value in ODD_VALUES + (0, 1, 7, -2, GREAT, [2], (2, 2)):
            self.refuses(BadNumber, {"part": "wide"}, Likeness.same, value)

    def test_equal(self):
        for one in all_likenesses(2) + all_likenesses(3):
            self.assertIs(one == Likeness(list(one.places), list(one.signs)), True)
            self.assertIs(one != Likeness(one.places, one.signs), False)
            for other in all_likenesses(2) + [None, one.places, (one.places, one.signs), 0]:
                alike = isinstance(other, Likeness) and (one.places, one.signs) == (other.places, other.signs)
                self.assertIs(one == other, alike)
                self.assertIs(other == one, alike)

    def test_what_is_changed_behind_the_call(self):
        places, signs = [1, 0], [1, -1]
        made = Likeness(places, signs)
        places[0] = signs[0] = 5
        self.assertEqual(made, TURN)

    def test_places_refused(self):
        refused = (BadLikeness, {"part": "places"}, Likeness)
        for value in ODD_VALUES + (
            0, [], [0], (0,), [0, 0], [1, 1], [1, 2], [-1, 0], [0, 2], [0, 1, 3], [2, 1, 0, 2], [0, True], [False, 1],
            [0, None], [0, "1"], [0, 1.0], [[0], [1]], list(range(7)), list(range(8)), [0, GREAT], TURN,
        ):
            self.refuses(*refused, value, [1, 1])
            # The places come wholly ahead of the signs.
            self.refuses(*refused, value, None)

    def test_signs_refused(self):
        for value in ODD_VALUES + (
            1, [], [1], [1, 1, 1], [1, 0], [1, 2], [-2, 1], [1, True], [True, True], [1, None], ["1", 1], [1, 1.0],
            [[1], [1]], [1, GREAT],
        ):
            self.refuses(BadLikeness, {"part": "signs"}, Likeness, [1, 0], value)

    def test_points_refused(self):
        for value in ODD_VALUES + (0, [], [1], [1, 2, 3], [1, True], [None, 1], ["1", 2], [[1], 2], [1, 2.0]):
            self.refuses(BadPoint, {"part": "point"}, TURN.led, value)

    def test_others_refused(self):
        for value in ODD_VALUES + (0, [], (TURN,), (TURN.places, TURN.signs), Likeness):
            self.refuses(BadLikeness, {"part": "other"}, TURN.then, value)
        for wide in range(3, 7):
            self.refuses(Misfit, {"part": "wide"}, TURN.then, Likeness.same(wide))
            self.refuses(Misfit, {"part": "wide"}, Likeness.same(wide).then, TURN)


class LikenessesOfTest(Case):
    def test_examples(self):
        self.assertEqual(
            [(each.places, each.signs) for each in likenesses_of(SQUARE, [TURN])],
            [((0, 1), (-1, -1)), ((0, 1), (1, 1)), ((1, 0), (-1, 1)), ((1, 0), (1, -1))],
        )
        self.assertEqual(len(likenesses_of(SQUARE, [TURN, MIRROR])), 8)
        self.refuses(Misfit, {"part": "points"}, likenesses_of, SQUARE[:3], [MIRROR])

    def check_made(self, points, given):
        told = likenesses_of(points=points, given=given)
        self.assertIs(type(told), tuple)
        self.assertTrue(all(type(each) is Likeness for each in told))
        made = sorted(made_by_definition(given, len(points[0])))
        self.assertEqual([(each.places, each.signs) for each in told], made)
        return len(told)

    def test_by_definition(self):
        for wide in range(2, 7):
            points = cross(wide)
            self.assertEqual(self.check_made(points, []), 1)
            self.assertEqual(self.check_made(points, ()), 1)
            self.assertEqual(self.check_made(points, [Likeness.same(wide)]), 1)
            self.assertEqual(self.check_made(points, [turned(wide, 0)]), 2)
            self.assertEqual(self.check_made(points, [rolled(wide)]), wide)
            self.assertEqual(self.check_made(points, [turned(wide, place) for place in range(wide)]), 2 ** wide)
        self.assertEqual(self.check_made(cross(3), [rolled(3), turned(3, 0)]), 24)
        self.assertEqual(self.check_made(cross(3), [rolled(3), turned(3, 0), Likeness((1, 0, 2), (1, 1, 1))]), 48)
        self.assertEqual(self.check_made(cross(4), (rolled(4), turned(4, 0))), 64)

    def test_ten_given(self):
        given = [TURN, MIRROR, TURN, MIRROR, TURN.back(), Likeness.same(2), *all_likenesses(2)[:4]]
        self.assertEqual(len(given), 10)
        self.assertEqual(self.check_made(SQUARE, given), 8)
        self.refuses(BadLikeness, {"part": "given"}, likenesses_of, SQUARE, [*given, TURN])

    def test_the_most_that_may_be_made(self):
        long = Long()
        self.assertEqual(self.check_made(long.points, long.given()), 64)
        self.assertEqual(self.check_made(cross(6), [turned(6, place) for place in range(6)]), 64)
        # With one more these make more.
        for wide, given in (
            (4, [rolled(4), turned(4, 0), Likeness((1, 0, 2, 3), (1, 1, 1, 1))]),
            (5, [rolled(5), turned(5, 0)]), (6, [rolled(6), turned(6, 0)]),
            (5, [rolled(5), Likeness((1, 0, 2, 3, 4), (1,) * 5)]),
            (6, [*[turned(6, place) for place in range(6)], Likeness((1, 0, 2, 3, 4, 5), (1,) * 6)]),
        ):
            self.assertGreater(len(made_by_definition(given, wide)), 64)
            self.refuses(TooMany, {"what": "likenesses", "most": 64}, likenesses_of, cross(wide), given)
            self.refuses(TooMany, {"what": "likenesses", "most": 64}, kinds_of, cross(wide), given, [])

    def test_lists_and_tuples(self):
        self.assertEqual(likenesses_of([list(point) for point in SQUARE], [TURN]), likenesses_of(SQUARE, (TURN,)))

    def test_points_that_are_led_to_none(self):
        for points, given in (
            (SQUARE[1:], [TURN]), (((1, 0),), [TURN]), (((1, 0), (-1, 0)), [TURN]), (((0, 0), (0, 1)), [MIRROR]),
            (board(3), [turned(3, 1)]), (cross(4)[:-1], [Likeness.same(4), turned(4, 3)]),
        ):
            self.refuses(Misfit, {"part": "points"}, likenesses_of, points, given)
            self.refuses(Misfit, {"part": "points"}, kinds_of, points, given, [])
        self.assertEqual(len(likenesses_of([(0, 0)], [TURN])), 4)
        self.assertEqual(len(likenesses_of([(0, 1), (0, -1)], [MIRROR])), 2)

    def test_points_refused(self):
        many = [(at, 0) for at in range(49)]
        for value in ODD_VALUES + (
            0, [], (), [[]], [1, 2], [(1,), (2,)], [(1, 2), (1, 2, 3)], [(1, True)], [(1, None)], [(1, 2), "12"],
            [(1, 2), [1, 2]], [(0, 0), (1, 1), (0, 0)], [(0,) * 7], many, [(1, 2), None], [[(1, 2)]], Solid(board(2)),
        ):
            for given in ([], None, [TURN, None]):
                self.refuses(BadPoint, {"part": "points"}, likenesses_of, value, given)
                self.refuses(BadPoint, {"part": "points"}, kinds_of, value, given, None)
        self.assertEqual(likenesses_of(many[:48], []), (Likeness.same(2),))

    def test_given_refused(self):
        for value in ODD_VALUES + (
            0, TURN, [None], [TURN, None], [TURN, (TURN.places, TURN.signs)], [[TURN]], [Likeness], [Likeness.same(3)],
            [TURN, Likeness.same(3)], [TURN] * 11, (0,),
        ):
            self.refuses(BadLikeness, {"part": "given"}, likenesses_of, SQUARE, value)
            for lots in ([], None, [[7]]):
                self.refuses(BadLikeness, {"part": "given"}, kinds_of, SQUARE, value, lots)
            # Told ahead of the points that are led to none.
            self.refuses(BadLikeness, {"part": "given"}, likenesses_of, SQUARE[:3], value)


class KindsOfTest(Case):
    def test_examples(self):
        self.assertEqual(
            [kinds_of(SQUARE, [MIRROR], [[1, 3], [0, 1], [0, 2]]), kinds_of(SQUARE, [TURN], [(0,), (1,), (2,), (3,), ()])],
            [(((0, 1),), ((0, 2), (1, 3))), (((),), ((0,), (1,), (2,), (3,)))],
        )
        self.refuses(Misfit, {"part": "lots"}, kinds_of, SQUARE, [MIRROR], [[0, 2]])

    def kinds_by_definition(self, points, given, lots):
        points = [tuple(point) for point in points]
        lots = [tuple(lot) for lot in lots]
        kinds = {
            tuple(sorted({
                tuple(sorted(points.index(each.led(points[at])) for at in lot)) for each in likenesses_of(points, given)
            }))
            for lot in lots
        }
        return tuple(sorted(kinds)) if {lot for kind in kinds for lot in kind} == set(lots) else None

    def test_sides_of_solids(self):
        for wide in range(2, 7):
            for points in (cross(wide), board(wide)[:16] if wide < 5 else cross(wide)):
                solid = Solid(points)
                swap = Likeness([1, 0, *range(2, wide)], [1] * wide)
                for given in ([], [swap], [rolled(wide)], [swap, Likeness([wide - 1, *range(1, wide - 1), 0], [1] * wide)]):
                    told = kinds_of(lots=solid.sides, given=given, points=solid.points)
                    self.assertEqual(told, self.kinds_by_definition(points, given, solid.sides))
                    self.assertEqual(sum(len(kind) for kind in told), len(solid.sides))
                    self.assertEqual(told, kinds_of(solid.points, given, [list(lot) for lot in solid.sides[::-1]]))
        self.assertEqual(len(kinds_of(cross(3), [rolled(3), turned(3, 0)], Solid(cross(3)).sides)), 1)

    def test_lots_of_all_kinds(self):
        lots = [tuple(at for at in range(4) if bits >> at & 1) for bits in range(16)]
        for given in ([], [TURN], [MIRROR], [TURN, MIRROR]):
            told = kinds_of(SQUARE, given, lots)
            self.assertEqual(told, self.kinds_by_definition(SQUARE, given, lots))
            self.assertEqual(list(told), sorted(told))
        self.assertEqual(len(kinds_of(SQUARE, [TURN, MIRROR], lots)), 6)

    def test_none_and_many(self):
        self.assertEqual(kinds_of(SQUARE, [TURN], []), ())
        self.assertEqual(kinds_of(SQUARE, [TURN], [()]), (((),),))
        points = [(at, 0) for at in range(48)]
        lots = [(one, other) for one in range(48) for other in range(one + 1, 48)]
        told = kinds_of(points, [], lots[:400])
        self.assertEqual(told, tuple((lot,) for lot in sorted(lots[:400])))
        self.refuses(BadLot, {"part": "lots"}, kinds_of, points, [], lots[:401])

    def test_lots_led_to_none(self):
        for given, lots in (
            ([TURN], [[0]]), ([TURN], [[0], [1], [2]]), ([TURN], [[], [0, 1], [1, 3], [2, 3]]), ([MIRROR], [[0, 2]]),
            ([MIRROR, TURN], [[0, 1], [2, 3]]), ([MIRROR, TURN], [[0, 3]]),
        ):
            self.refuses(Misfit, {"part": "lots"}, kinds_of, SQUARE, given, lots)
        self.assertEqual(kinds_of(SQUARE, [MIRROR], [[0, 1], [2, 3]]), (((0, 1),), ((2, 3),)))

    def test_lots_refused(self):
        for value in ODD_VALUES + (
            0, [0], [None], [[4]], [[0, 4]], [[-1]], [[1, 0]], [[0, 0]], [[0], (0,)], [(), [0, 1], []], [[True]],
            [["0"]], ["0"], [[0], 1], [[[0]]], [[0.0]], [[0], [1], [2], [3], [0]],
        ):
            self.refuses(BadLot, {"part": "lots"}, kinds_of, SQUARE, [TURN], value)
            # Told ahead of points that are led to none, and of more likenesses than may be made.
            self.refuses(BadLot, {"part": "lots"}, kinds_of, SQUARE[:3], [TURN], value)

    def test_the_order(self):
        # A point led to none, too many likenesses, a lot led to none.
        given = [rolled(5), turned(5, 0)]
        self.refuses(Misfit, {"part": "points"}, kinds_of, cross(5)[:-1], given, [[0]])
        self.refuses(TooMany, {"what": "likenesses", "most": 64}, kinds_of, cross(5), given, [[0]])
        self.refuses(Misfit, {"part": "lots"}, kinds_of, cross(5), given[:1], [[0]])

    def test_no_spindles_are_wanted(self):
        prism = Spindle(PRISM)
        swap = Likeness((1, 0, 2), (1, 1, 1))
        self.assertEqual(
            kinds_of(prism.points, [swap], prism.solid.sides),
            (((0, 1, 2),), ((0, 1, 3, 4), (0, 2, 3, 5)), ((1, 2, 4, 5),), ((3, 4, 5),)),
        )
