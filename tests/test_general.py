"""What the document promises over the whole program: of each class of papers, and of each function."""

import importlib
import inspect
import unittest
from time import process_time

from spindleway import errors
from spindleway.boards import Short, is_board
from spindleway.corners import Path
from spindleway.errors import SolidError
from spindleway.fortyeight import Long
from spindleway.lifts import Lift
from spindleway.likenesses import Likeness
from spindleway.overs import Leaps, Over, Strays
from spindleway.papers import Denial, Paper, fixed
from spindleway.plans import Plan
from spindleway.solids import Solid
from spindleway.spindles import Spindle
from spindleway.steps import Apart
from spindleway.sums import Best
from spindleway.ways import Ways
from spindleway.wells import Shut, Well
from tests.base import GREAT, ODD_VALUES, Case
from tests.samples import CUBE, RING, TENT
from tests.spindle_samples import EDGES, KITE, MOVED_ONE, PRISM, ROOF, TURNED_ONE, TWISTED
from tests.test_interface import FUNCTIONS

# Each class of papers with the names of its parts, and whether it is a denial.
PAPERS = {
    Apart: ("walk numbers", False), Ways: ("walks", False), Over: ("sides", False), Strays: ("side", True),
    Leaps: ("one other", True), Lift: ("point heights by", False), Well: ("sides", False), Shut: ("side", True),
    Plan: ("dimension points length above", False), Path: ("points numbers", False), Short: ("points", False),
    Best: ("points weights by", False),
}
KITE_WELL = (4, 0, 5, 1, 6, 7, 2, 8, 8, 3, 4, 5, 6, 7, 8, 8, 8)
SQUARE = ((1, 1), (1, -1), (-1, 1), (-1, -1))


def listed(value):
    """The value with lists in the place of tuples, all the way in; a paper, too, is made anew of lists."""
    if isinstance(value, (list, tuple)):
        return [listed(each) for each in value]
    if type(value) in PAPERS:
        return type(value)(*[listed(part) for part in value.parts])
    return value


def calls():
    """For each function of the interface, by its name, arguments that are right."""
    tent, cube, ring = Solid(TENT), Solid(CUBE), Solid(RING)
    kite, prism, roof = Spindle(KITE), Spindle(PRISM), Spindle(ROOF)
    moved_one, turned_one = Spindle(MOVED_ONE), Spindle(TURNED_ONE)
    lift = (0, (0, 0, 0, 1), 2)
    turn, mirror = Likeness((1, 0), (1, -1)), Likeness((0, 1), (1, -1))
    over = Over((0, 1, 2, 1, 2, 3, 4))
    return {
        "is_integer": [(7,), ((7,),)], "is_within": [(3, None, 3)], "are_integers": [((1, 2),), (((1,), 2),)],
        "is_point": [((0, -3), 2)], "is_lot": [((0, 2), 3)], "common_divisor": [((-12, 18, 0),)],
        "coprime": [((-12, 18, 0),)], "fixed": [((1, (2, ())),)], "rank_of": [(((1, 2), (2, 4)),)],
        "span_of": [(((0, 0, 1), (1, 1, 1)),), ((),)], "plane_through": [(((0, 3), (2, 0)),)],
        "side_of": [(tent, (0, 2, 4)), (tent, (0, 1))], "moved": [(tent, ((0, 1, 0), (2, 0, 0), (1, 1, 1)), (5, -1, 0))],
        "ridges_of": [(tent,)], "near": [(tent, 1)], "are_near": [(tent, 1, 2)], "steps_from": [(ring, 4)],
        "apart": [(ring, 0, 4)], "farthest": [(ring,)], "ways": [(tent, 1, 2)], "parted": [(tent, (0, 2, 3))],
        "shows_apart": [(ring, 0, 3, Apart((0, 2, 3), (0, 0, 1, 2, 1, 0))), (ring, 0, 3, (0, 2, 3))],
        "shows_ways": [(tent, 1, 2, Ways(((1, 3, 4, 2), (1, 2), (1, 0, 2)))), (tent, 1, 2, ((1, 2),))],
        "turned_over": [(roof,)], "shifted": [(roof, (5, -1), (0, 7))], "length_of": [(roof,)], "between": [(roof,)],
        "parts_of": [(roof, 1)], "crossings": [(roof,)], "ring_of": [(roof,)], "middle": [(roof,)],
        "lies_over": [(prism, moved_one), (prism, turned_one), (Spindle(EDGES), Spindle(TWISTED))],
        "led_numbers": [(prism, moved_one, over, (0, 1, 1, 1, 2))], "is_plain": [(prism,), (turned_one,)],
        "pulled": [(prism, 4)], "made_plain": [(prism,)], "pulls_of": [(prism,)],
        "shows_over": [(prism, moved_one, over), (prism, turned_one, Strays(1)), (prism, moved_one, (0, 1))],
        "likenesses_of": [(SQUARE, (turn,))], "kinds_of": [(SQUARE, (mirror,), ((1, 3), (0, 1), (0, 2)))],
        "shows_long": [(Apart(Long().walk(), Long().numbers()),), ((1, 2),)],
        "lifted": [(kite, *lift)], "least_by": [(kite, *lift[:2])], "lift_of": [(kite,)], "lifts_of": [(kite,)],
        "led_through": [(kite, (Lift(*lift),)), (kite, ())],
        "well": [(kite, *lift), (kite, 0, (0, 1, 4, 9), 2)],
        "led_up": [(kite, *lift, Well(KITE_WELL), (0, 1, 1, 2, 1, 2, 2, 2, 3))], "plan": [(5, 48, 6)],
        "shows_well": [(kite, *lift, Well(KITE_WELL)), (kite, 0, (0, 1, 4, 9), 2, Strays(0)), (kite, *lift, KITE_WELL)],
        "shows_lift": [(kite, Lift(0, (0, 0, 0, 1), 1)), (kite, lift)],
        "beside": [(tent, 4)], "path": [(cube, 0, 7)], "turned": [(cube, (1, 1, 1), 2)], "is_board": [(cube,), (tent,)],
        "agreeing": [(cube, 1, 3)], "short_path": [(cube, 0, 7)], "worth_at": [(cube, (1, 2, -1), 1)],
        "best": [(cube, (1, 2, -1), 1), (tent, (0, 0, 0), 2)],
        "shows_path": [(tent, 1, 2, Path((1, 4, 2), (1, 0, 2, 1, 1))), (tent, 1, 2, (1, 4, 2))],
        "shows_short": [(cube, 0, 7, Short((0, 2, 3, 7))), (cube, 0, 7, (0, 2, 3, 7))],
        "shows_best": [(cube, (1, 2, -1), 1, Best((1, 3, 2, 6), (0, 0, 3, 0, 6, 3), 3)), (cube, (1, 0, 0), 0, (0, 4))],
    }


# For each parameter for which an error is told: the error of a value that is right for none of its calls.
CLASS_ERRORS = {
    "solid": "BadSolid", "spindle": "BadSpindle", "first": "BadSpindle", "second": "BadSpindle", "over": "BadPaper",
    "lifts": "BadPaper", "well": "BadPaper", "point": "BadNumber", "points": "BadPoint", "given": "BadLikeness",
    "lots": "BadLot", "lot": "BadLot", "gone": "BadLot",
}
NO_ERRORS = ("value", "least", "most", "wide", "many")


def functions():
    """The pairs of a function of the interface, and arguments that are right."""
    known = calls()
    for name, all_of in FUNCTIONS.items():
        for each in all_of:
            function = getattr(importlib.import_module(f"spindleway.{name}"), each)
            for arguments in known[each]:
                yield function, arguments


class PapersTest(unittest.TestCase):
    def test_all_classes_are_here(self):
        found = set()
        for name in {*FUNCTIONS, "ways", "plans"}:
            for value in vars(importlib.import_module(f"spindleway.{name}")).values():
                if inspect.isclass(value) and issubclass(value, Paper):
                    found.add(value)
        self.assertEqual(found - {Paper, Denial}, set(PAPERS))

    def values(self, many):
        """Lots of so many values of all kinds, lists within lists and papers among them."""
        kinds = ODD_VALUES + (7, GREAT, [], (), [[]], [1, (2, [3])], Strays([1]), Paper("a", [1]), [Strays(0)], {"a": [1]})
        for at in range(len(kinds)):
            yield [kinds[(at + 5 * place) % len(kinds)] for place in range(many)]

    def test_parts(self):
        for made, (told, denies) in PAPERS.items():
            names = told.split()
            self.assertTrue(issubclass(made, Paper))
            self.assertIs(issubclass(made, Denial), denies)
            for values in self.values(len(names)):
                for paper in (made(*values), made(**dict(zip(names, values)))):
                    self.assertEqual(paper.word, made.__name__.lower())
                    self.assertIs(type(paper.parts), tuple)
                    self.assertEqual(paper.parts, fixed(values))
                    self.assertIs(bool(paper), not denies)
                    for name, value in zip(names, values):
                        self.assertEqual(getattr(paper, name), fixed(value))
                        if not isinstance(value, (list, tuple)):
                            self.assertIs(getattr(paper, name), value)
                        self.assertIs(type(getattr(paper, name)), type(fixed(value)))

    def test_equal(self):
        for made, (told, _) in PAPERS.items():
            many = len(told.split())
            for values in self.values(many):
                paper = made(*values)
                self.assertIs(paper == made(*listed(values)), True)
                self.assertIs(paper != made(*values), False)
                for at in range(many):
                    other = made(*values[:at], "another", *values[at + 1:])
                    self.assertIs(paper == other, False)
                    self.assertIs(paper != other, True)
                for other in PAPERS:
                    if other is not made and len(PAPERS[other][0].split()) == many:
                        self.assertIs(paper == other(*values), False)
                for other in (Paper(paper.word, *values), Denial(paper.word, *values), tuple(values), paper.parts, None):
                    self.assertIs(paper == other, False)
                    self.assertIs(other == paper, False)

    def test_as_python_compares(self):
        for made, (told, _) in PAPERS.items():
            many = len(told.split())
            self.assertEqual(made(*[1] * many), made(*[True] * many))
            self.assertEqual(made(*[[1, (0,)]] * many), made(*[(1.0, [False])] * many))

    def test_changed_behind_the_call(self):
        for made, (told, _) in PAPERS.items():
            many = len(told.split())
            deep = [3]
            values = [[1, (2, deep)] for _ in range(many)]
            paper = made(*values)
            deep.append(4)
            for value in values:
                value.clear()
            self.assertEqual(paper.parts, ((1, (2, (3,))),) * many)


class CallsTest(Case):
    def test_all_functions_are_here(self):
        self.assertEqual(set(calls()), {each for all_of in FUNCTIONS.values() for each in all_of})

    def test_lists_and_tuples_for_one_another(self):
        for function, arguments in functions():
            if function.__name__ in ("is_integer", "fixed"):
                continue
            told = function(*arguments)
            self.assertEqual(function(*[listed(each) for each in arguments]), told)
            self.assertEqual(function(*arguments), told)
            names = inspect.signature(function).parameters
            self.assertEqual(function(**dict(zip(names, arguments))), told)

    def test_tuples_are_returned(self):
        for function, arguments in functions():
            told = function(*arguments)
            parts = told.parts if isinstance(told, Paper) else (told,)
            self.assertEqual(parts, fixed(parts))
            self.assertNotIn(list, [type(each) for each in parts])
            if function.__name__.startswith(("shows_", "is_", "are_")):
                self.assertIn(told, (True, False))
                self.assertIs(type(told), bool)

    def test_what_is_passed_stays(self):
        for function, arguments in functions():
            passed = [listed(each) for each in arguments]
            copies = [listed(each) for each in passed]
            solids = [(str(each), each.points) for each in arguments if isinstance(each, (Solid, Spindle))]
            function(*passed)
            self.assertEqual(passed, copies)
            self.assertEqual(solids, [(str(each), each.points) for each in arguments if isinstance(each, (Solid, Spindle))])

    def test_any_value_where_an_error_is_told(self):
        checked = 0
        for function, arguments in functions():
            names = list(inspect.signature(function).parameters)
            if function.__module__ == "spindleway.checks" and names != ["values"]:
                continue
            for at, name in enumerate(names):
                if name in NO_ERRORS or name == "value":
                    continue
                error, part = self.error_of(function, name)
                for value in ODD_VALUES + (Solid, [None], [[None]], [[1, None]], "0 0", ["a"], [True]):
                    # What stands behind is not looked at.
                    others = [None] * (len(names) - at - 1)
                    self.refuses(error, {"part": part}, function, *arguments[:at], value, *others)
                    self.refuses(error, {"part": part}, function, *arguments[:at], value, *arguments[at + 1:])
                    checked += 1
        self.assertGreater(checked, 1000)

    def error_of(self, function, name):
        plain = function.__name__
        if plain == "plan" or (name == "points" and plain not in ("likenesses_of", "kinds_of")):
            told = "BadPoint" if plain in ("span_of", "plane_through") else "BadNumber"
        else:
            told = CLASS_ERRORS.get(name, "BadNumber")
        return getattr(errors, told), name

    def test_shows_takes_any_value(self):
        seen = 0
        for function, arguments in functions():
            if function.__name__.startswith("shows_"):
                for value in ODD_VALUES + (
                    0, 7, GREAT, [], [[]], [None], "0", Solid(CUBE), Spindle(KITE), Paper("a"), Denial("a", 1), Long,
                    *[made(*[None] * len(told.split())) for made, (told, _) in PAPERS.items()],
                    *[made(*[[[], 1, "a"]] * len(told.split())) for made, (told, _) in PAPERS.items()],
                    *[made(*[True] * len(told.split())) for made, (told, _) in PAPERS.items()],
                    *[made(*[{}] * len(told.split())) for made, (told, _) in PAPERS.items()],
                    *[made(*[[object()]] * len(told.split())) for made, (told, _) in PAPERS.items()],
                ):
                    self.assertIs(function(*arguments[:-1], value), False)
                    seen += 1
        self.assertGreater(seen, 500)

    def test_equal_values_across_classes(self):
        tent = Solid(TENT)
        values = [
            tent, Solid(CUBE), Spindle(KITE), Spindle(PRISM), Likeness((1, 0), (1, 1)), Likeness.same(2), Long(),
            Paper("a"), Denial("a"), *[made(*[1] * len(told.split())) for made, (told, _) in PAPERS.items()],
        ]
        for at, one in enumerate(values):
            for other_at, other in enumerate(values):
                self.assertIs(one == other, at == other_at)
                self.assertIs(one != other, at != other_at)
            for other in ODD_VALUES + (tent.points, str(tent), [], ()):
                self.assertIs(one == other, False)
        self.assertIs(Spindle(KITE) == Solid(KITE), False)
        self.assertIs(Solid(KITE) == Spindle(KITE).solid, True)

    def test_errors_are_all_below_one(self):
        found = {name for name, value in vars(errors).items() if inspect.isclass(value)}
        self.assertEqual(len(found), 14)
        for name in found - {"SolidError"}:
            self.assertEqual(getattr(errors, name).__bases__, (SolidError,))
        self.assertEqual(SolidError.__bases__, (ValueError,))

    def test_all_calls_come_in_a_short_time(self):
        told = list(functions())
        start = process_time()
        for _ in range(5):
            for function, arguments in told:
                function(*arguments)
        self.assertLess((process_time() - start) * 1000, 5 * len(told) * 10)
        self.assertTrue(is_board(Solid(CUBE)))


if __name__ == "__main__":
    unittest.main()
