"""By how much a lift must be, at the pieces and at the sides between, by ratios."""

import unittest
from fractions import Fraction

from spindleway.between import between
from spindleway.pieces import are_plain_pieces, least_past_pieces, least_past_sides, least_well, new_places, piece_rows
from spindleway.solids import Solid
from tests.base import product
from tests.lift_base import can_be_lifted, drawn, plain_ones, some_heights


def straight(known):
    """The one function, a product with a row of ratios and a ratio added, that has what is told at some points."""
    wide = len(known[0][0])
    rows = [[*map(Fraction, point), Fraction(1), Fraction(worth)] for point, worth in known]
    for place in range(wide + 1):
        pivot = next(at for at in range(place, len(rows)) if rows[at][place])
        rows[place], rows[pivot] = rows[pivot], rows[place]
        rows[place] = [number / rows[place][place] for number in rows[place]]
        for at in range(len(rows)):
            if at != place:
                rows[at] = [one - rows[at][place] * two for one, two in zip(rows[at], rows[place])]
    found = [row[-1] for row in rows[:wide + 1]]
    return lambda point: product(found[:-1], point) + found[-1]


def above(bound):
    """The least integer from 1 on that is greater than a ratio."""
    return max(1, bound.numerator // bound.denominator + 1)


def past_pieces(spindle, point, heights):
    """The bounds of the pieces, upper ones and lower ones, as the document tells them."""
    end = drawn(spindle, point)
    solid = Solid([(*spindle.points[at][:-1], height) for at, height in zip(end, heights)])
    other = [at for at in range(len(spindle.points)) if at not in (*end, point)]
    bounds = []
    for side, (row, _) in zip(solid.sides, solid.planes):
        known = [(spindle.points[end[at]], heights[at]) for at in side]
        function = straight([*known, (spindle.points[point], 0)])
        sign = -1 if row[-1] > 0 else 1
        bounds.extend([sign * function(spindle.points[at]) for at in other])
    return max(bounds)


def past_sides(spindle, point, heights):
    places = new_places(spindle, point, heights)
    bounds = []
    for number in between(spindle):
        side, (row, worth) = spindle.solid.sides[number], spindle.solid.planes[number]
        if point in side:
            continue
        known = [(spindle.points[at], places[at]) for at in side]
        function = straight([*known, (spindle.points[point], 0)])
        lacks = [worth - product(row, each) for each in spindle.points]
        bounds.extend([
            lacks[point] * abs(places[at] - function(spindle.points[at])) / lacks[at]
            for at in range(len(lacks))
            if at not in side and at != point
        ])
    return max(bounds)


class PiecesTest(unittest.TestCase):
    def test_by_ratios(self):
        seen = 0
        for seed, spindle in enumerate(plain_ones()):
            if not can_be_lifted(spindle):
                continue
            point = (seed * 5 + 1) % len(spindle.points)
            for heights in some_heights(spindle, point, seed):
                pieces = piece_rows(spindle, point, heights)
                places = new_places(spindle, point, heights)
                one = above(past_pieces(spindle, point, heights))
                other = above(past_sides(spindle, point, heights))
                self.assertEqual(least_past_pieces(spindle, point, pieces), one)
                self.assertEqual(least_past_sides(spindle, point, places), other)
                self.assertEqual(least_well(spindle, point, heights, pieces), max(one, other))
                seen += one > 1
        self.assertGreater(seen, 60)

    def test_pieces(self):
        seen = {True: 0, False: 0}
        for seed, spindle in enumerate(plain_ones()):
            if can_be_lifted(spindle):
                for heights in some_heights(spindle, 0, seed):
                    end = drawn(spindle, 0)
                    solid = Solid([(*spindle.points[at][:-1], height) for at, height in zip(end, heights)])
                    pieces = piece_rows(spindle, 0, heights)
                    self.assertEqual(sorted(pieces), sorted(solid.bits))
                    wanted = all(len(side) == spindle.dimension for side in solid.sides)
                    self.assertIs(are_plain_pieces(spindle, pieces), wanted)
                    seen[wanted] += 1
                many = len(drawn(spindle, 0))
                self.assertIsNone(piece_rows(spindle, 0, [3] * many))
                self.assertEqual(new_places(spindle, 0, range(1, many + 1))[0], 0)
        self.assertGreater(min(seen.values()), 5)


if __name__ == "__main__":
    unittest.main()
