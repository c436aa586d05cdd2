from spindleway.check_overs import shows_over
from spindleway.errors import BadSpindle, Misfit
from spindleway.overs import Leaps, Over, Strays, lies_over
from spindleway.papers import Denial, Paper
from spindleway.pulls import made_plain, pulled
from spindleway.spindles import Spindle
from tests.base import GREAT, ODD_VALUES, Case
from tests.over_base import MISFITS, NO_SPINDLES, holders, leaps, neighbours, pairs, right_choices
from tests.spindle_samples import EDGES, FOUR, MOVED_ONE, NINE, PRISM, TURNED_ONE, TWISTED

RIGHT = (0, 1, 2, 1, 2, 3, 4)


class LikeOver(Over):
    pass


class LikeStrays(Strays):
    pass


class LikeLeaps(Leaps):
    pass


NO_PAPERS = ODD_VALUES + (
    0, 7, [], (), RIGHT, list(RIGHT), (RIGHT,), Over, Strays, Leaps, Paper("over", RIGHT), Denial("over", RIGHT),
    Paper("strays", 1), Denial("strays", 1), Denial("leaps", 6, 8), LikeOver(RIGHT), LikeStrays(1), LikeLeaps(6, 8),
)


class ShowsOverTest(Case):
    def test_examples(self):
        prism, moved_one, turned_one = Spindle(PRISM), Spindle(MOVED_ONE), Spindle(TURNED_ONE)
        edges, twisted = Spindle(EDGES), Spindle(TWISTED)
        self.assertEqual(
            [shows_over(prism, moved_one, Over([0, 1, 2, 1, 2, 3, 4])),
             shows_over(prism, moved_one, Over([0, 1, 2, 1, 2, 4, 4])), shows_over(prism, moved_one, Strays(5))],
            [True, False, False],
        )
        self.assertEqual(
            [shows_over(prism, turned_one, Strays(1)), shows_over(prism, turned_one, Strays(7)),
             shows_over(edges, twisted, Leaps(6, 8)), shows_over(edges, twisted, Leaps(8, 6))],
            [True, False, True, False],
        )

    def test_what_lies_over_returns(self):
        for first, second in pairs():
            told = lies_over(first, second)
            self.assertIs(shows_over(value=told, second=second, first=first), True)
            if told:
                self.assertIs(shows_over(first, second, Over(list(told.sides))), True)

    def test_overs_of_any_right_sides(self):
        seen = {True: 0, False: 0}
        besides = 0
        for first, second in pairs():
            told = lies_over(first, second)
            for sides, right in right_choices(first, second, 60):
                self.assertIs(shows_over(first, second, Over(sides)), right)
                seen[right] += 1
                # A right choice, though the first sides that hold them leap.
                besides += right and type(told) is Leaps
        self.assertGreater(min(seen.values()), 20)
        self.assertGreater(besides, 0)

    def test_overs_bent_at_any_place(self):
        prism, moved_one = Spindle(PRISM), Spindle(MOVED_ONE)
        rows = holders(prism, moved_one)
        for at in range(len(RIGHT)):
            others = [side for side in range(5) if side not in rows[at]]
            for value in ODD_VALUES + (-1, -5, 5, GREAT, [RIGHT[at]], *others):
                self.assertIs(shows_over(prism, moved_one, Over((*RIGHT[:at], value, *RIGHT[at + 1:]))), False)
        for value in NO_PAPERS + ((RIGHT,), RIGHT[:-1], (*RIGHT, 4), RIGHT[::-1], {}):
            if value not in (RIGHT, list(RIGHT)):
                self.assertIs(shows_over(prism, moved_one, Over(value)), False)

    def test_strays_of_each_side(self):
        strays = ends = 0
        for first, second in pairs():
            rows = holders(first, second)
            for side, row in enumerate(rows):
                self.assertIs(shows_over(first, second, Strays(side)), not row)
                strays += not row
            # Nothing is counted from the end.
            self.assertIs(shows_over(first, second, Strays(-1)), False)
            self.assertIs(shows_over(first, second, Strays(len(rows))), False)
            ends += not rows[0] and not rows[-1]
        self.assertGreater(strays, 100)
        self.assertGreater(ends, 0)

    def test_strays_of_no_side(self):
        prism, turned_one = Spindle(PRISM), Spindle(TURNED_ONE)
        rows = holders(prism, turned_one)
        self.assertEqual([side for side, row in enumerate(rows) if not row], [1, 2, 3, 4, 5, 6])
        for value in ODD_VALUES + (-1, -7, 8, GREAT, [1], (1,), "1", Strays(1), 1.0):
            self.assertIs(shows_over(prism, turned_one, Strays(value)), False)

    def test_leaps(self):
        seen = 0
        for first, second in pairs():
            rows = holders(first, second)
            if [] in rows:
                right = None
            else:
                right = next(iter(leaps(first, second, [row[0] for row in rows])), None)
            seen += right is not None
            for one, other in neighbours(second)[::7] + ([right] if right else []):
                self.assertIs(shows_over(first, second, Leaps(one, other)), (one, other) == right)
                self.assertIs(shows_over(first, second, Leaps(other, one)), False)
        self.assertGreater(seen, 10)

    def test_leaps_that_are_not_the_first(self):
        seen = 0
        for first, second in pairs():
            rows = holders(first, second)
            if [] not in rows:
                for one, other in leaps(first, second, [row[0] for row in rows])[1:]:
                    seen += 1
                    self.assertIs(shows_over(first, second, Leaps(one, other)), False)
        self.assertGreater(seen, 10)

    def test_leaps_bent(self):
        edges, twisted = Spindle(EDGES), Spindle(TWISTED)
        for value in ODD_VALUES + ([6], 7, -1, 20, GREAT, 6.0, 8.0, None):
            self.assertIs(shows_over(edges, twisted, Leaps(value, 8)), False)
            self.assertIs(shows_over(edges, twisted, Leaps(6, value)), False)
            self.assertIs(shows_over(edges, twisted, Leaps(value, value)), False)

    def test_true_and_false_are_no_numbers(self):
        prism, moved_one, turned_one = Spindle(PRISM), Spindle(MOVED_ONE), Spindle(TURNED_ONE)
        for sides in ((False, *RIGHT[1:]), (0, True, *RIGHT[2:]), (0, 1, 2, True, *RIGHT[4:])):
            self.assertEqual(Over(sides), Over(RIGHT))
            self.assertIs(shows_over(prism, moved_one, Over(sides)), False)
        self.assertIs(shows_over(prism, turned_one, Strays(True)), False)
        seen = 0
        for first, second in pairs():
            told = lies_over(first, second)
            if type(told) is Leaps and told.one in (0, 1):
                seen += 1
                self.assertEqual(Leaps(bool(told.one), told.other), told)
                self.assertIs(shows_over(first, second, Leaps(bool(told.one), told.other)), False)
                self.assertIs(shows_over(first, second, Leaps(told.one, float(told.other))), False)
        self.assertGreater(seen, 0)

    def test_values_that_are_no_such_papers(self):
        for one, other in ((PRISM, MOVED_ONE), (PRISM, TURNED_ONE), (EDGES, TWISTED)):
            first, second = Spindle(one), Spindle(other)
            for value in NO_PAPERS:
                self.assertIs(shows_over(first, second, value), False)
            for value in (Over(RIGHT), Strays(1), Leaps(6, 8)):
                right = value == lies_over(first, second)
                self.assertIs(shows_over(first, second, value), right)

    def test_what_is_pulled_lies_over(self):
        for points in (PRISM, FOUR, NINE, EDGES):
            spindle = Spindle(points)
            for other in (pulled(spindle, 0), pulled(spindle, len(points) - 1), made_plain(spindle)):
                self.assertIs(shows_over(spindle, other, lies_over(spindle, other)), True)
                self.assertIs(type(lies_over(spindle, other)), Over)

    def test_refused_ahead_of_the_value(self):
        prism = Spindle(PRISM)
        for paper in (None, Over([0, 1, 2, 3, 4]), Strays(0)):
            for value in NO_SPINDLES:
                self.refuses(BadSpindle, {"part": "first"}, shows_over, value, value, paper)
                self.refuses(BadSpindle, {"part": "first"}, shows_over, value, prism, paper)
                self.refuses(BadSpindle, {"part": "second"}, shows_over, prism, value, paper)
            for one, other, part in MISFITS:
                self.refuses(Misfit, {"part": part}, shows_over, Spindle(one), Spindle(other), paper)
