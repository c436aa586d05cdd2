from math import gcd

from spindleway.checks import are_integers, common_divisor, coprime, is_integer, is_lot, is_point, is_within
from spindleway.errors import BadNumber
from tests.base import GREAT, ODD_VALUES, Case
from tests.samples import noise

GREATEST = 10 ** 5000
NO_LISTS = ODD_VALUES + (0, 7, -GREAT)
# Lists that are none of integers alone.
BENT_LISTS = (
    [True], [False], (True,), [1, True], [None], [1, None], ["1"], [1, "2"], [[1]], [1, [2]], [(1, 2)], ([],), ((),),
    [1.0], [1, {}], [0, 1, False],
)


class IntegersTest(Case):
    def test_examples(self):
        self.assertEqual(
            [is_integer(True), is_within(3, None, 3), are_integers([1, True]), is_point((0, -3), 2), is_lot([0, 2], 3),
             is_lot([2, 0], 3), is_lot((), 0), is_lot([0, 3], 3)],
            [False, True, False, True, True, False, True, False],
        )

    def test_is_integer(self):
        for value in (0, 1, -1, 7, GREAT, -GREAT, GREATEST, -GREATEST):
            self.assertIs(is_integer(value), True)
        for value in ODD_VALUES + ([], [1], (1,), ([1],)):
            self.assertIs(is_integer(value), False)
        self.assertIs(is_integer(value=3), True)

    def test_is_within(self):
        for value, least, most, told in (
            (3, 3, 3, True), (3, 4, None, False), (3, None, 2, False), (3, None, 3, True), (3, 3, None, True),
            (3, None, None, True), (-5, -6, -4, True), (-7, -6, -4, False), (-3, -6, -4, False), (0, 0, 0, True),
            (3, 4, 2, False), (0, 1, None, False), (0, None, -1, False), (GREATEST, 0, None, True),
            (GREATEST, GREATEST, GREATEST, True), (GREATEST + 1, None, GREATEST, False), (-GREATEST, 0, None, False),
        ):
            self.assertIs(is_within(value, least, most), told)
        for value in ODD_VALUES + ([], [1], (1,)):
            for least, most in ((None, None), (0, None), (None, 9), (0, 9), (0, 1)):
                self.assertIs(is_within(value, least, most), False)
        self.assertIs(is_within(most=4, least=2, value=3), True)

    def test_are_integers(self):
        for value in ([], (), [0], (0,), [-1, 1, -1], (GREAT, -GREAT), [GREATEST], list(range(1000))):
            self.assertIs(are_integers(value), True)
        for value in NO_LISTS + BENT_LISTS:
            self.assertIs(are_integers(value), False)
        self.assertIs(are_integers(value=[3]), True)

    def test_is_point(self):
        for value, wide, told in (
            ([], 0, True), ((), 0, True), ([], 1, False), ([4], 1, True), ([4], 0, False), ([4], 2, False),
            ((1, 2, 3), 3, True), ((1, 2, 3), 2, False), ((1, 2, 3), 4, False), ([GREATEST, -GREATEST], 2, True),
        ):
            self.assertIs(is_point(value, wide), told)
        for value in NO_LISTS + BENT_LISTS:
            for wide in range(4):
                self.assertIs(is_point(value, wide), False)
        self.assertIs(is_point(wide=2, value=[3, 3]), True)

    def test_is_lot(self):
        for value, many, told in (
            ([], 0, True), ((), 5, True), ([0], 1, True), ([0], 0, False), ([1], 1, False), ((0, 1, 2), 3, True),
            ((0, 1, 3), 3, False), ([0, 2], 3, True), ([2, 0], 3, False), ([1, 1], 3, False), ([0, 0], 3, False),
            ([-1], 3, False), ([-1, 0], 3, False), ([0, 2, 1], 3, False), ([GREAT], GREAT, False),
            ([GREAT - 1], GREAT, True), ([0, GREATEST], 3, False), ([0, GREATEST], GREATEST + 1, True),
        ):
            self.assertIs(is_lot(value, many), told)
        for value in NO_LISTS + BENT_LISTS:
            for many in (0, 1, 9):
                self.assertIs(is_lot(value, many), False)
        self.assertIs(is_lot(many=3, value=[1]), True)


class DivisorTest(Case):
    def test_examples(self):
        self.assertEqual(
            [common_divisor([-12, 18, 0]), common_divisor([]), coprime([-12, 18, 0]), coprime((0, 0)), coprime([-7])],
            [6, 0, (-2, 3, 0), (0, 0), (-1,)],
        )

    def test_common_divisor(self):
        for values, told in (
            ([], 0), ((), 0), ([0], 0), ([0, 0], 0), ([5], 5), ([-5], 5), ([0, -5], 5), ([1, 0], 1), ((4, 6), 2),
            ((6, 10, 15), 1), ((-6, -10), 2), ([GREAT], GREAT), ([GREAT * 35, -GREAT * 21], GREAT * 7),
            ([GREATEST, 0, -GREATEST], GREATEST),
        ):
            self.assertEqual(common_divisor(values), told)
        self.assertEqual(common_divisor(values=[8, 12]), 4)

    def test_coprime(self):
        for values, told in (
            ([], ()), ((), ()), ([0], (0,)), ((0, 0, 0), (0, 0, 0)), ([5], (1,)), ([-5], (-1,)), ([4, -6], (2, -3)),
            ((3, 5), (3, 5)), ([0, -4], (0, -1)), ([GREAT * 2, -GREAT * 4, 0], (1, -2, 0)), ([GREATEST], (1,)),
        ):
            self.assertEqual(coprime(values), told)
            self.assertIs(type(coprime(values)), tuple)
        self.assertEqual(coprime(values=(8, 12)), (2, 3))

    def test_they_agree(self):
        for seed in range(20):
            numbers = [number * (seed + 1) for number in noise(seed, 5, 10 ** (seed + 1))]
            divisor = common_divisor(numbers)
            self.assertEqual(divisor, gcd(*numbers))
            self.assertEqual([number * divisor for number in coprime(numbers)], numbers)
            self.assertEqual(common_divisor(coprime(numbers)), 1)

    def test_refused(self):
        for value in NO_LISTS + BENT_LISTS:
            self.refuses(BadNumber, {"part": "values"}, common_divisor, value)
            self.refuses(BadNumber, {"part": "values"}, coprime, value)

    def test_what_is_passed_does_not_change(self):
        values = [4, -6]
        coprime(values)
        common_divisor(values)
        self.assertEqual(values, [4, -6])
