import unittest

from spindleway.check_long import shows_long
from spindleway.fortyeight import Long
from spindleway.overs import Leaps, Over, Strays
from spindleway.papers import Denial, Paper
from spindleway.steps import Apart
from spindleway.ways import Ways
from tests.base import GREAT, ODD_VALUES, ManyCase

LONG = Long()
WALK = LONG.walk()
NUMBERS = LONG.numbers()


class LikeApart(Apart):
    pass


class ShowsLongTest(unittest.TestCase):
    def shows(self, walk, numbers):
        return shows_long(Apart(walk, numbers))

    def test_examples(self):
        long = Long()
        self.assertEqual(
            [shows_long(Apart(long.walk(), long.numbers())),
             shows_long(Apart([145, 49, 17, 65, 61, 59, 0], [number - 9 for number in long.numbers()])),
             shows_long(Apart(long.walk()[::-1], long.numbers())), shows_long(Apart(long.walk(), [0] * 322)),
             shows_long(None)],
            [True, True, False, False, False],
        )

    def test_by_name(self):
        self.assertIs(shows_long(value=Apart(WALK, NUMBERS)), True)
        self.assertIs(shows_long(value=Apart(list(WALK), list(NUMBERS))), True)

    def test_other_right_papers(self):
        # Any of the 64 walks, and the steps that are left to the bottom, turned about.
        walks = [(LONG.top,)]
        for step in range(1, 7):
            walks = [(*walk, side) for walk in walks for side in LONG.near(walk[-1]) if NUMBERS[side] == step]
        walks = [walk for walk in walks if walk[-1] == LONG.bottom]
        self.assertEqual(len(walks), 64)
        for walk in walks[::9]:
            self.assertIs(self.shows(walk, NUMBERS), True)
        left = self.steps_to_bottom()
        for more in (0, 6, -1, GREAT, 10 ** 400):
            numbers = [more - number for number in left]
            self.assertIs(self.shows(WALK, numbers), True)
            self.assertIs(self.shows(WALK, [number + more for number in NUMBERS]), True)
        self.assertNotEqual([6 - number for number in left], list(NUMBERS))

    def steps_to_bottom(self):
        left = {LONG.bottom: 0}
        front = [LONG.bottom]
        while front:
            beyond = []
            for side in front:
                for other in LONG.near(side):
                    if other not in left:
                        left[other] = left[side] + 1
                        beyond.append(other)
            front = beyond
        return [left[side] for side in range(322)]

    def test_walks_bent_at_any_place(self):
        for at in range(len(WALK)):
            for value in ODD_VALUES + ([], [WALK[at]], -1, 322, GREAT, WALK[at] - 322, WALK[at - 1], 145, 0, 321):
                if value != WALK[at] or isinstance(value, bool):
                    self.assertIs(self.shows((*WALK[:at], value, *WALK[at + 1:]), NUMBERS), False)
            self.assertIs(self.shows((*WALK[:at], *WALK[at + 1:]), NUMBERS), False)
            self.assertIs(self.shows((*WALK[:at], WALK[at], *WALK[at:]), NUMBERS), False)
        # A walk that goes to and fro has more steps than the numbers tell.
        self.assertIs(self.shows((145, 49, 145, *WALK[1:]), NUMBERS), False)
        for bent in (
            (), [], (145,), (0,), (145, 0), WALK[::-1], WALK[:-1], WALK[1:], (WALK,), (*WALK, 0), "0", {}, {0: 145},
        ):
            self.assertIs(self.shows(bent, NUMBERS), False)

    def test_numbers_bent_at_any_place(self):
        for at in range(322):
            for value in (NUMBERS[at] + (3 if at % 2 else -3), None):
                self.assertIs(self.shows(WALK, (*NUMBERS[:at], value, *NUMBERS[at + 1:])), False)
        for at in (0, 1, 145, 321):
            for value in ODD_VALUES + ([], [NUMBERS[at]], GREAT):
                self.assertIs(self.shows(WALK, (*NUMBERS[:at], value, *NUMBERS[at + 1:])), False)
        for bent in (
            NUMBERS[:-1], (*NUMBERS, 3), (), (0,), NUMBERS[::-1], (NUMBERS,), [7] * 322, [0] * 322, None, {}, "0" * 322,
            [-number for number in NUMBERS],
        ):
            self.assertIs(self.shows(WALK, bent), False)

    def test_the_ends(self):
        # The first and the last worth, moved by one: neighbours still fit, the whole does not.
        for at in (LONG.top, LONG.bottom):
            bent = list(NUMBERS)
            bent[at] += 1 if at == LONG.top else -1
            self.assertIs(self.shows(WALK, bent), False)

    def test_true_and_false_are_no_numbers(self):
        self.assertEqual(Apart((*WALK[:-1], False), NUMBERS), Apart(WALK, NUMBERS))
        self.assertIs(self.shows((*WALK[:-1], False), NUMBERS), False)
        for number, side in ((False, LONG.top), (True, LONG.near(LONG.top)[0])):
            self.assertIs(self.shows(WALK, (*NUMBERS[:side], number, *NUMBERS[side + 1:])), False)

    def test_values_that_are_no_such_papers(self):
        for value in ODD_VALUES + (
            0, 7, [], (), WALK, (WALK, NUMBERS), [WALK, NUMBERS], Apart, Paper("apart", WALK, NUMBERS),
            Denial("apart", WALK, NUMBERS), LikeApart(WALK, NUMBERS), Ways([WALK]), Over(NUMBERS), Strays(0), Leaps(0, 1),
            Apart(NUMBERS, WALK), Apart(None, None), LONG, shows_long,
        ):
            self.assertIs(shows_long(value), False)


class ManyCallsTest(ManyCase):
    # Here they take about an eighth of one; working out the sides at each call took six.
    milliseconds = 1.5

    def test_the_right_paper_and_the_walk_turned_round(self):
        right, wrong = Apart(WALK, NUMBERS), Apart(WALK[::-1], NUMBERS)
        told = self.many_in_time(shows_long, [(right,), (wrong,)] * 400)
        self.assertEqual(told, [True, False] * 400)

    def test_papers_made_each_time(self):
        told = self.many_in_time(lambda: shows_long(Apart(Long().walk(), Long().numbers())), [()] * 400)
        self.assertEqual(told, [True] * 400)

    def test_bent_papers(self):
        bent = [(Apart(WALK, (*NUMBERS[:at], NUMBERS[at] + 4, *NUMBERS[at + 1:])),) for at in range(322)]
        self.assertEqual(self.many_in_time(shows_long, bent * 3), [False] * 966)

    def test_longs(self):
        self.assertEqual(self.many_in_time(Long, [()] * 400), [LONG] * 400)


if __name__ == "__main__":
    unittest.main()
