from spindleway.errors import BadNumber, BadPaper, BadSpindle, Misfit
from spindleway.overs import Leaps, Over, Strays, led_numbers, lies_over
from spindleway.papers import Denial, Paper
from spindleway.spindles import Spindle, length_of
from spindleway.steps import steps_from
from spindleway.walks import is_numbering
from tests.base import GREAT, ODD_VALUES, Case
from tests.over_base import MISFITS, NO_SPINDLES, holders, leaps, pairs, right_choices
from tests.spindle_samples import BENT, EDGES, ELEVEN, FOUR, MOVED_ONE, PRISM, TURNED_ONE, TWISTED


class LikeOver(Over):
    pass


RIGHT = (0, 1, 2, 1, 2, 3, 4)
NUMBERS = (0, 1, 1, 1, 2)
# The same Over as the right one, as Python compares its parts, or nearly so.
NO_OVERS = ODD_VALUES + (
    0, 7, [], RIGHT, list(RIGHT), Over, (RIGHT,), Paper("over", RIGHT), Denial("over", RIGHT), Paper("over", *RIGHT),
    LikeOver(RIGHT), Strays(0), Leaps(0, 1), Over(None), Over(0), Over(()), Over([]), Over((RIGHT,)), Over({}),
    Over("0121234"), Over(RIGHT[:-1]), Over((*RIGHT, 4)), Over(RIGHT[::-1]),
)


class PapersTest(Case):
    def test_fields(self):
        for made in (Over([0, [1]]), Over(sides=(0, [1]))):
            self.assertEqual((made.sides, made.word, made.parts), ((0, (1,)), "over", ((0, (1,)),)))
            self.assertIs(bool(made), True)
        for made in (Strays([5]), Strays(side=(5,))):
            self.assertEqual((made.side, made.word, made.parts), ((5,), "strays", ((5,),)))
            self.assertIs(bool(made), False)
        for made in (Leaps([6], 8), Leaps(other=8, one=(6,))):
            self.assertEqual((made.one, made.other, made.word, made.parts), ((6,), 8, "leaps", ((6,), 8)))
            self.assertIs(bool(made), False)

    def test_any_values(self):
        for value in ODD_VALUES + (7, GREAT):
            self.assertIs(Over(value).sides, value)
            self.assertIs(Strays(value).side, value)
            self.assertIs(Leaps(value, 0).one, value)
            self.assertIs(Leaps(0, value).parts[1], value)

    def test_classes(self):
        self.assertTrue(issubclass(Over, Paper))
        self.assertFalse(issubclass(Over, Denial))
        self.assertTrue(issubclass(Strays, Denial))
        self.assertTrue(issubclass(Leaps, Denial))
        self.assertIs(Over([0, 1]) == Over((0, 1)), True)
        self.assertIs(Over([0, 1]) == Over((0, 2)), False)
        self.assertIs(Strays(1) == Strays(1), True)
        self.assertIs(Strays(1) == Over(1), False)
        self.assertIs(Strays(1) == Denial("strays", 1), False)
        self.assertIs(Leaps(1, 2) == Leaps(2, 1), False)
        self.assertIs(Leaps(1, 2) == Leaps(1, 2), True)


class LiesOverTest(Case):
    def test_examples(self):
        prism, moved_one, turned_one = Spindle(PRISM), Spindle(MOVED_ONE), Spindle(TURNED_ONE)
        self.assertEqual(
            [prism.solid.sides, moved_one.solid.sides],
            [((0, 1, 2), (0, 1, 3, 4), (0, 2, 3, 5), (1, 2, 4, 5), (3, 4, 5)),
             ((0, 1, 2), (0, 1, 4), (0, 2, 5), (0, 3, 4), (0, 3, 5), (1, 2, 4, 5), (3, 4, 5))],
        )
        self.assertEqual(
            [lies_over(prism, moved_one).sides, lies_over(prism, turned_one).side, lies_over(moved_one, prism).side],
            [RIGHT, 1, 1],
        )

    def test_examples_of_dimension_five(self):
        edges, twisted, eleven, bent = Spindle(EDGES), Spindle(TWISTED), Spindle(ELEVEN), Spindle(BENT)
        told = lies_over(edges, twisted)
        self.assertEqual(
            [len(edges.solid.sides), len(twisted.solid.sides), told.one, told.other, twisted.solid.sides[6],
             twisted.solid.sides[8]],
            [16, 20, 6, 8, (0, 1, 3, 5, 6, 8), (0, 1, 4, 5, 6, 9)],
        )
        self.assertEqual(
            [len(eleven.solid.sides), len(bent.solid.sides), len(length_of(eleven).walk) - 1,
             len(length_of(bent).walk) - 1, lies_over(eleven, bent).parts],
            [32, 34, 3, 2, (0, 1)],
        )
        self.assertIs(type(lies_over(eleven, bent)), Leaps)

    def test_by_definition(self):
        seen = {Over: 0, Strays: 0, Leaps: 0}
        for first, second in pairs():
            told = lies_over(second=second, first=first)
            self.assertEqual(told, lies_over(Spindle(first.points), Spindle(list(second.points))))
            rows = holders(first, second)
            if [] in rows:
                right = Strays(rows.index([]))
            else:
                sides = tuple(row[0] for row in rows)
                parted = leaps(first, second, sides)
                right = Leaps(*parted[0]) if parted else Over(sides)
            self.assertEqual(told, right)
            self.assertIs(bool(told), type(told) is Over)
            seen[type(told)] += 1
        for kind, many in seen.items():
            self.assertGreater(many, 10, kind)

    def test_what_lies_over_is_no_shorter(self):
        for first, second in pairs():
            if lies_over(first, second):
                self.assertLessEqual(len(length_of(first).walk), len(length_of(second).walk))

    def test_itself(self):
        for points in (PRISM, FOUR, EDGES):
            spindle = Spindle(points)
            self.assertEqual(lies_over(spindle, spindle), Over(list(range(len(spindle.solid.sides)))))

    def test_refused(self):
        prism = Spindle(PRISM)
        for value in NO_SPINDLES:
            self.refuses(BadSpindle, {"part": "first"}, lies_over, value, prism)
            self.refuses(BadSpindle, {"part": "second"}, lies_over, prism, value)
            self.refuses(BadSpindle, {"part": "first"}, lies_over, value, value)

    def test_misfits(self):
        for one, other, part in MISFITS:
            self.refuses(Misfit, {"part": part}, lies_over, Spindle(one), Spindle(other))


class LedNumbersTest(Case):
    def test_examples(self):
        prism, moved_one = Spindle(PRISM), Spindle(MOVED_ONE)
        over = Over([0, 1, 2, 1, 2, 3, 4])
        self.assertEqual(led_numbers(prism, moved_one, over, [0, 1, 1, 1, 2]), (0, 1, 1, 1, 1, 1, 2))
        self.refuses(Misfit, {"part": "numbers"}, led_numbers, prism, moved_one, over, [0, 1, 1, 3, 2])

    def test_all(self):
        seen = 0
        for first, second in pairs():
            over = lies_over(first, second)
            if type(over) is not Over:
                continue
            seen += 1
            steps = steps_from(first.solid, first.top)
            for numbers in (steps, [5 - number for number in steps], [GREAT] * len(steps), [3 - 2 * GREAT] * len(steps)):
                told = led_numbers(first=first, second=second, over=over, numbers=numbers)
                self.assertEqual(told, tuple(numbers[side] for side in over.sides))
                self.assertIs(is_numbering(second.solid.neighbours, told), True)
        self.assertGreater(seen, 30)

    def test_other_choices(self):
        seen = {True: 0, False: 0}
        for first, second in pairs():
            steps = steps_from(first.solid, first.bottom)
            for sides, right in right_choices(first, second, 40):
                seen[right] += 1
                if right:
                    told = led_numbers(first, second, Over(list(sides)), steps)
                    self.assertEqual(told, tuple(steps[side] for side in sides))
                else:
                    self.refuses(BadPaper, {"part": "over"}, led_numbers, first, second, Over(sides), steps)
        self.assertGreater(seen[True], 20)
        self.assertGreater(seen[False], 20)

    def test_no_overs(self):
        prism, moved_one = Spindle(PRISM), Spindle(MOVED_ONE)
        for value in NO_OVERS:
            for numbers in (NUMBERS, None, (0, 9, 9, 9, 9)):
                self.refuses(BadPaper, {"part": "over"}, led_numbers, prism, moved_one, value, numbers)
        edges, twisted = Spindle(EDGES), Spindle(TWISTED)
        sides = [row[0] for row in holders(edges, twisted)]
        for value in (lies_over(edges, twisted), Over(sides)):
            self.refuses(BadPaper, {"part": "over"}, led_numbers, edges, twisted, value, [0] * 16)

    def test_overs_bent_at_any_place(self):
        prism, moved_one = Spindle(PRISM), Spindle(MOVED_ONE)
        rows = holders(prism, moved_one)
        for at in range(len(RIGHT)):
            others = [side for side in range(5) if side not in rows[at]]
            for value in ODD_VALUES + (-1, 5, GREAT, [RIGHT[at]], *others):
                over = Over((*RIGHT[:at], value, *RIGHT[at + 1:]))
                self.refuses(BadPaper, {"part": "over"}, led_numbers, prism, moved_one, over, NUMBERS)

    def test_true_and_false_are_no_numbers(self):
        prism, moved_one = Spindle(PRISM), Spindle(MOVED_ONE)
        for sides in ((False, *RIGHT[1:]), (0, True, *RIGHT[2:]), (0, 1, 2, True, *RIGHT[4:])):
            self.assertEqual(Over(sides), Over(RIGHT))
            self.refuses(BadPaper, {"part": "over"}, led_numbers, prism, moved_one, Over(sides), NUMBERS)
        for numbers in ((False, 1, 1, 1, 2), (0, True, 1, 1, 2), (0, 1, 1, True, 2)):
            self.refuses(BadNumber, {"part": "numbers"}, led_numbers, prism, moved_one, Over(RIGHT), numbers)

    def test_numbers_refused(self):
        prism, moved_one = Spindle(PRISM), Spindle(MOVED_ONE)
        for value in ODD_VALUES + (
            0, [], NUMBERS[:-1], (*NUMBERS, 1), [NUMBERS], "01112", [None] * 5, [0, 1, 1, 1, "2"], [0, 1, 1, 1, 2.0],
            [0, 1, [1], 1, 2], (0,) * 7,
        ):
            self.refuses(BadNumber, {"part": "numbers"}, led_numbers, prism, moved_one, Over(RIGHT), value)

    def test_no_numberings(self):
        prism, moved_one = Spindle(PRISM), Spindle(MOVED_ONE)
        for at in range(5):
            for more in (3, -3, GREAT):
                value = (*NUMBERS[:at], NUMBERS[at] + more, *NUMBERS[at + 1:])
                self.refuses(Misfit, {"part": "numbers"}, led_numbers, prism, moved_one, Over(RIGHT), value)
        # The ends are no neighbours, so they may differ by two.
        self.assertEqual(led_numbers(prism, moved_one, Over(RIGHT), [-1, 0, 0, 0, 1])[-1], 1)

    def test_the_order(self):
        prism, moved_one = Spindle(PRISM), Spindle(MOVED_ONE)
        for value in NO_SPINDLES:
            self.refuses(BadSpindle, {"part": "first"}, led_numbers, value, value, value, value)
            self.refuses(BadSpindle, {"part": "first"}, led_numbers, value, moved_one, Over(RIGHT), NUMBERS)
            self.refuses(BadSpindle, {"part": "second"}, led_numbers, prism, value, value, value)
            self.refuses(BadSpindle, {"part": "second"}, led_numbers, prism, value, Over(RIGHT), NUMBERS)
        for one, other, part in MISFITS:
            for over in (None, Over(RIGHT)):
                self.refuses(Misfit, {"part": part}, led_numbers, Spindle(one), Spindle(other), over, None)
        self.refuses(BadPaper, {"part": "over"}, led_numbers, prism, moved_one, None, None)
