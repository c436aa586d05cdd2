"""What the tests share: refusals, odd values, and an oracle that works by the definitions alone."""

import unittest
from fractions import Fraction
from itertools import combinations
from time import monotonic, process_time

from spindleway.errors import SolidError

GREAT = 10 ** 60 - 1

# Values of other kinds than integers, lists and tuples.
ODD_VALUES = (
    None, True, False, "", "12", b"12", 1.0, Fraction(2), {}, {0: 1}, set(), frozenset([1]), range(3), object(), int,
)


class Case(unittest.TestCase):
    def refuses(self, error, fields, call, *args, **named):
        """The call raises just this class of error, with just these fields."""
        with self.assertRaises(SolidError) as caught:
            call(*args, **named)
        self.assertIs(type(caught.exception), error)
        self.assertEqual(vars(caught.exception), fields)


class TimedCase(Case):
    # Wide above what is needed, so that a slow machine passes and a program that tries too much does not.
    seconds = 5

    def in_time(self, call, *args):
        """What the call returns, which must not take longer than is told."""
        start = monotonic()
        told = call(*args)
        self.assertLess(monotonic() - start, self.seconds)
        return told


class ManyCase(Case):
    # For each call, on the whole, and of this process alone: again far above what is needed.
    milliseconds = 20

    def many_in_time(self, call, lots):
        """What a call returns for each of some arguments; on the whole they take no longer than is told."""
        start = process_time()
        found = [call(*each) for each in lots]
        self.assertLess((process_time() - start) * 1000, self.milliseconds * len(lots))
        return found


def rank(rows):
    """The rank by elimination over ratios."""
    rows = [[Fraction(number) for number in row] for row in rows]
    found = 0
    for place in range(len(rows[0]) if rows else 0):
        pivot = next((at for at in range(found, len(rows)) if rows[at][place]), None)
        if pivot is None:
            continue
        rows[found], rows[pivot] = rows[pivot], rows[found]
        for at in range(found + 1, len(rows)):
            times = rows[at][place] / rows[found][place]
            rows[at] = [one - times * two for one, two in zip(rows[at], rows[found])]
        found += 1
    return found


def span(points):
    if not points:
        return -1
    return rank([[one - two for one, two in zip(point, points[0])] for point in points[1:]])


def determinant(rows):
    if not rows:
        return 1
    return sum(
        (-1) ** at * rows[0][at] * determinant([row[:at] + row[at + 1:] for row in rows[1:]])
        for at in range(len(rows))
        if rows[0][at]
    )


def product(row, point):
    return sum(one * two for one, two in zip(row, point))


def planes_by_minors(points):
    """By their definition the planes (row, number) that hold points that span them, none being past them."""
    wide = len(points[0])
    for chosen in combinations(points, wide):
        steps = [[one - two for one, two in zip(point, chosen[0])] for point in chosen[1:]]
        row = [(-1) ** at * determinant([step[:at] + step[at + 1:] for step in steps]) for at in range(wide)]
        for sign in (1, -1) if any(row) else ():
            turned = [sign * number for number in row]
            worths = [product(turned, point) for point in points]
            if max(worths) == product(turned, chosen[0]):
                yield turned, max(worths)


def sides(points):
    """All sides by their definition."""
    return tuple(sorted({
        tuple(at for at, point in enumerate(points) if product(row, point) == number)
        for row, number in planes_by_minors(points)
    }))


def ridges(points, lots):
    found = []
    for one, other in combinations(range(len(lots)), 2):
        lot = tuple(sorted(set(lots[one]) & set(lots[other])))
        if span([points[at] for at in lot]) == len(points[0]) - 2:
            found.append((lot, one, other))
    return tuple(sorted(found))


def distances(many, pairs):
    """How many steps any two of so many sides are apart, by trying each side between."""
    far = [[0 if one == other else many for other in range(many)] for one in range(many)]
    for one, other in pairs:
        far[one][other] = far[other][one] = 1
    for by in range(many):
        for one in range(many):
            for other in range(many):
                far[one][other] = min(far[one][other], far[one][by] + far[by][other])
    return far
