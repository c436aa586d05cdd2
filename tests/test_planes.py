from itertools import combinations
from math import gcd

from spindleway.errors import BadNumber, BadPoint, Misfit
from spindleway.planes import plane_through, rank_of, span_of
from tests.base import GREAT, ODD_VALUES, Case, product, rank, span
from tests.samples import noise, noisy_rows

BENT_NUMBERS = ODD_VALUES + ([], [1], (), (1,))
NO_LISTS = ODD_VALUES + (0, 5)


def bent_at_any_place(rows):
    """The rows with a value of another kind at any place, or in the place of a row."""
    for at, row in enumerate(rows):
        for place in range(len(row)):
            for value in BENT_NUMBERS:
                yield [*rows[:at], [*row[:place], value, *row[place + 1:]], *rows[at + 1:]]
        for value in ODD_VALUES + (7,):
            yield [*rows[:at], value, *rows[at + 1:]]


def of_unlike_lengths(rows):
    """The rows with one of them longer or shorter by one."""
    for at, row in enumerate(rows):
        yield [*rows[:at], [*row, 1], *rows[at + 1:]]
        yield [*rows[:at], list(row[:-1]), *rows[at + 1:]]


class RankTest(Case):
    def test_examples(self):
        self.assertEqual([rank_of([[1, 2], [2, 4]]), rank_of([(0, 0, 0)])], [1, 0])

    def test_every_number_and_width(self):
        for many in range(1, 17):
            for wide in range(1, 9):
                for most in (1, 3, GREAT):
                    rows = noisy_rows(many * 17 + wide, many, wide, most)
                    self.assertEqual(rank_of(rows), rank(rows))
                self.assertEqual(rank_of([[0] * wide] * many), 0)
                self.assertEqual(rank_of([[2] * wide] * many), 1)

    def test_every_rank(self):
        for seed in range(40):
            some = noisy_rows(seed, 1 + seed % 5, 6, 9)
            times = noisy_rows(seed + 100, 9, len(some), GREAT)
            rows = [[product(row, place) for place in zip(*some)] for row in times]
            self.assertEqual(rank_of(rows), rank(some))

    def test_what_rounding_would_lose(self):
        self.assertEqual(rank_of([[GREAT, GREAT + 1], [GREAT - 1, GREAT]]), 2)
        self.assertEqual(rank_of([[GREAT, GREAT + 1], [2 * GREAT, 2 * GREAT + 2]]), 1)
        self.assertEqual(rank_of([[10 ** 500, 1], [10 ** 500 + 1, 1]]), 2)

    def test_lists_and_tuples(self):
        for rows in ([[1, 2], [3, 4]], ((1, 2), (3, 4)), [(1, 2), [3, 4]], ([1, 2], (3, 4))):
            self.assertEqual(rank_of(rows), 2)
        self.assertEqual(rank_of(rows=[[1, 2]]), 1)

    def test_bounds(self):
        refused = (BadNumber, {"part": "rows"}, rank_of)
        self.refuses(*refused, [])
        self.refuses(*refused, ())
        self.refuses(*refused, [[]])
        self.refuses(*refused, [[], []])
        self.refuses(*refused, [[1]] * 17)
        self.refuses(*refused, [[1] * 9])
        self.refuses(*refused, [[1] * 9] * 17)
        self.assertEqual(rank_of([[1]] * 16), 1)
        self.assertEqual(rank_of([[1] * 8]), 1)

    def test_refused(self):
        refused = (BadNumber, {"part": "rows"}, rank_of)
        for value in NO_LISTS + ([1, 2], (1,)):
            self.refuses(*refused, value)
        for rows in ([[1, 2], [3, 4], (5, 6)], [[7]], [[1] * 8, [2] * 8]):
            for bent in bent_at_any_place(rows):
                self.refuses(*refused, bent)
        for rows in ([[1, 2], [3, 4], (5, 6)], [[1] * 8, [2] * 8]):
            for bent in of_unlike_lengths(rows):
                self.refuses(*refused, bent)


class SpanTest(Case):
    def test_examples(self):
        self.assertEqual([span_of([]), span_of([(5, 5)]), span_of([(0, 0, 1), (1, 1, 1), (2, 2, 1)])], [-1, 0, 1])

    def test_every_number_and_width(self):
        self.assertEqual([span_of([]), span_of(())], [-1, -1])
        for many in range(1, 17):
            for wide in range(1, 9):
                for most in (1, 3, GREAT):
                    points = noisy_rows(many * 19 + wide, many, wide, most)
                    self.assertEqual(span_of(points), span(points))
                self.assertEqual(span_of([[3] * wide] * many), 0)
                self.assertEqual(span_of([[GREAT + at] * wide for at in range(many)]), min(many - 1, 1))

    def test_points_away_from_nought(self):
        self.assertEqual(span_of([(1, 0), (0, 1)]), 1)
        self.assertEqual(span_of([(GREAT, 0), (0, GREAT), (GREAT, GREAT)]), 2)
        self.assertEqual(span_of([(GREAT, 0), (0, GREAT), (GREAT + 1, -1)]), 1)
        self.assertEqual(span_of(points=[[1], [2]]), 1)

    def test_bounds(self):
        refused = (BadPoint, {"part": "points"}, span_of)
        self.refuses(*refused, [[]])
        self.refuses(*refused, [(), ()])
        self.refuses(*refused, [[1]] * 17)
        self.refuses(*refused, [[1] * 9])
        self.assertEqual(span_of([[1]] * 16), 0)
        self.assertEqual(span_of([[1] * 8]), 0)

    def test_refused(self):
        refused = (BadPoint, {"part": "points"}, span_of)
        for value in NO_LISTS + ([1, 2], (1,)):
            self.refuses(*refused, value)
        for points in ([[1, 2], [3, 4], (5, 6)], [[7]], [[1] * 8, [2] * 8]):
            for bent in bent_at_any_place(points):
                self.refuses(*refused, bent)
        for points in ([[1, 2], [3, 4], (5, 6)], [[1] * 8, [2] * 8]):
            for bent in of_unlike_lengths(points):
                self.refuses(*refused, bent)


class PlaneTest(Case):
    def check_plane(self, points):
        row, number = plane_through(points)
        self.assertIs(type(row), tuple)
        self.assertEqual(len(row), len(points))
        self.assertEqual({product(row, point) for point in points}, {number})
        self.assertEqual(gcd(*row), 1)
        self.assertGreater([worth for worth in row if worth != 0][0], 0)

    def test_examples(self):
        self.assertEqual(
            [plane_through([(0, 3), (2, 0)]), plane_through([[0, 0, 4], [1, 0, 4], [0, 1, 4]]),
             plane_through([(1, 1), (5, 5)])],
            [((3, 2), 6), ((0, 0, 1), 4), ((1, -1), 0)],
        )
        self.refuses(Misfit, {"part": "span"}, plane_through, [(0, 0, 0), (1, 1, 1), (2, 2, 2)])

    def test_every_dimension(self):
        for wide in range(2, 7):
            for seed in range(12):
                for most in (2, 10, GREAT):
                    points = noisy_rows(seed * 7 + wide, wide, wide, most)
                    if span(points) == wide - 1:
                        self.check_plane(points)
                    else:
                        self.refuses(Misfit, {"part": "span"}, plane_through, points)

    def test_every_plane_of_noughts_but_one(self):
        for wide in range(2, 7):
            for place in range(wide):
                for number in (0, 5, -5, GREAT):
                    points = [[GREAT * (at == other) for other in range(wide)] for at in range(wide) if at != place]
                    points = [[0] * wide, *points]
                    for point in points:
                        point[place] = number
                    told = tuple(int(at == place) for at in range(wide))
                    self.assertEqual(plane_through(points), (told, number))

    def test_the_order_of_the_points_does_not_matter(self):
        points = [(4, 1, 0), (0, 2, 9), (-3, 5, 5)]
        for at, other in combinations(range(3), 2):
            turned = list(points)
            turned[at], turned[other] = turned[other], turned[at]
            self.assertEqual(plane_through(turned), plane_through(points))
        self.assertEqual(plane_through(points=tuple(points)), plane_through([list(point) for point in points]))

    def test_sign_and_divisor(self):
        self.assertEqual(plane_through([(0, 0), (0, 7)]), ((1, 0), 0))
        self.assertEqual(plane_through([(-2, 0), (-2, 9)]), ((1, 0), -2))
        self.assertEqual(plane_through([(0, -2), (9, -2)]), ((0, 1), -2))
        self.assertEqual(plane_through([(0, 0), (4, 6)]), ((3, -2), 0))
        self.assertEqual(plane_through([(0, 1), (4, 7)]), ((3, -2), -2))
        self.assertEqual(plane_through([(0, 0, 0), (0, GREAT, GREAT), (1, 0, 0)]), ((0, 1, -1), 0))

    def test_no_plane(self):
        for wide in range(2, 7):
            misfit = (Misfit, {"part": "span"}, plane_through)
            self.refuses(*misfit, [[1] * wide] * wide)
            self.refuses(*misfit, [[GREAT] * wide] * wide)
            if wide > 2:
                self.refuses(*misfit, [[at] * wide for at in range(wide)])
            points = noisy_rows(wide, wide, wide, GREAT)
            self.refuses(*misfit, [*points[:-1], points[0]])

    def test_bounds(self):
        refused = (BadPoint, {"part": "points"}, plane_through)
        self.refuses(*refused, [])
        self.refuses(*refused, [[]])
        self.refuses(*refused, [(3,)])
        self.refuses(*refused, noisy_rows(1, 7, 7, 9))
        for many in range(1, 8):
            for wide in range(0, 9):
                if many != wide:
                    self.refuses(*refused, [noise(many, wide, 9)] * many)

    def test_refused(self):
        refused = (BadPoint, {"part": "points"}, plane_through)
        for value in NO_LISTS + ([1, 2], (1, 2)):
            self.refuses(*refused, value)
        for points in ([[1, 2], [3, 4]], [(0, 0, 0), (1, 1, 1), (2, 2, 2)], noisy_rows(3, 6, 6, 9)):
            for bent in bent_at_any_place(points):
                self.refuses(*refused, bent)
            for bent in of_unlike_lengths(points):
                self.refuses(*refused, bent)

    def test_what_is_passed_does_not_change(self):
        points = [[0, 3], [2, 0]]
        plane_through(points)
        rank_of(points)
        span_of(points)
        self.assertEqual(points, [[0, 3], [2, 0]])
