"""Sums of products over rows of integers, nothing of it rounded. The callers have checked the rows."""

from math import gcd, lcm


def divisor_of(values):
    """The greatest integer that divides all values; 0 if all are 0 or there is none."""
    divisor = 0
    for value in values:
        divisor = gcd(divisor, value)
        if divisor == 1:
            return 1
    return divisor


def multiple_of(values):
    """The least integer from 1 on that is a multiple of all values that are not 0."""
    multiple = 1
    for value in values:
        if value != 0:
            multiple = lcm(multiple, value)
    return multiple


def reduced(values):
    """The tuple of the values, divided by their greatest common divisor if this is not 0."""
    divisor = divisor_of(values)
    if divisor <= 1:
        return tuple(values)
    return tuple([value // divisor for value in values])


def product_of(row, other):
    """The sum of the products of two rows."""
    return sum([one * two for one, two in zip(row, other)])


def unit_rows(wide):
    """The rows of so many integers that have one 1 each, and else 0s."""
    return [tuple([int(place == at) for place in range(wide)]) for at in range(wide)]


def narrowed(held, row):
    """Rows that span just those sums of held, independent rows whose product with a row is 0.

    There is one row less, unless all of held had the product 0 already.
    """
    products = [product_of(each, row) for each in held]
    pivots = [at for at in range(len(held)) if products[at] != 0]
    if not pivots:
        return held
    pivot = pivots[0]
    return [
        without(held[at], products[at], held[pivot], products[pivot])
        for at in range(len(held))
        if at != pivot
    ]


def without(row, product, pivot_row, pivot_product):
    """The row, as often as a pivot's product with a point tells, less the pivot as often as its own one tells.

    So its product with the point is 0. It is reduced; by a pivot_product above 0 it is not turned about.
    """
    if product == 0:
        return row
    return reduced([one * pivot_product - two * product for one, two in zip(row, pivot_row)])


def rank_among(rows, wide):
    """The rank of some rows of so many integers, perhaps of none."""
    held = unit_rows(wide)
    for row in rows:
        held = narrowed(held, row)
    return wide - len(held)


def lifted_point(point):
    """The point with a 1 behind it: its product with (row, -number) is 0 on the plane (row, number)."""
    return (*point, 1)


def span_among(points, wide):
    """The dimension that some points of so many integers span, -1 for none."""
    return rank_among([lifted_point(point) for point in points], wide + 1) - 1
