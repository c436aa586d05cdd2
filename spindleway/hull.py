"""The sides of some points, with their planes, and the ridges between them.

The callers have checked the points: unlike ones of as many integers each. A plane is told by a row whose
product with each lifted point of its side is 0, and with each other one below 0; a side by the bits of its points.
"""

from spindleway.algebra import divisor_of, lifted_point, multiple_of, narrowed, product_of, reduced, unit_rows, without
from spindleway.bits import are_alone, count_table

# Shorter integers are multiplied so fast that nothing is won by still shorter ones.
LONG_BITS = 256


def rows_by_side(points):
    """A dict from the bits of each side to its row; None if the points do not span all dimensions."""
    whole = [lifted_point(point) for point in points]
    if _most_bits(whole) <= LONG_BITS:
        return _rows_among(whole)
    # What is turned, and what is led, may be so many times as large as ratios of far shorter integers.
    scale = multiple_of([divisor_of(point) for point in points])
    ratios = [reduced((*point, scale)) for point in points]
    if _most_bits(ratios) >= _most_bits(whole):
        return _rows_among(whole)
    rows = _rows_among(ratios)
    if rows is None:
        return None
    return {side: reduced((*row[:-1], row[-1] * scale)) for side, row in rows.items()}


def _most_bits(points):
    return max([abs(number) for point in points for number in point]).bit_length()


def _rows_among(points):
    """A dict from the bits of each side to its row, the points being lifted, each multiplied by an integer above 0.

    One point after another comes to those ahead of it. Their sides, within what they span, are known
    then, and the free rows, whose product with each of them is 0.
    """
    wide = len(points[0]) - 1
    free = unit_rows(wide + 1)
    rows = {}
    counts = count_table()
    for at in range(len(points)):
        point = points[at]
        fewer = narrowed(free, point)
        if len(fewer) < len(free):
            pivots = [row for row in free if product_of(row, point) != 0]
            rows = _with_point_beyond(rows, point, 1 << at, pivots[0])
            free = fewer
        else:
            rows = _with_point_within(rows, point, 1 << at, wide - 1 - len(free), counts)
    return None if free else rows


def _with_point_beyond(rows, point, bit, pivot):
    """The rows by side with a point that is not in the span of those ahead, told by a free row.

    Each side gets the point, and all points ahead, the lesser bits, make one more side.
    """
    worth = product_of(pivot, point)
    if worth < 0:
        pivot = [-number for number in pivot]
        worth = -worth
    grown = {side | bit: without(row, product_of(row, point), pivot, worth) for side, row in rows.items()}
    grown[bit - 1] = tuple([-number for number in pivot])
    return grown


def _with_point_within(rows, point, bit, least, counts):
    """The rows by side with a point in the span of those ahead, where each ridge has least points or more.

    Sides that the point is past are gone; with each ridge between one of them and a side that the point is
    below it makes a new one, whose row is a sum of both rows.
    """
    sides = list(rows)
    worths = {side: product_of(rows[side], point) for side in sides}
    below = [side for side in sides if worths[side] < 0]
    grown = {side: rows[side] for side in below}
    for side in sides:
        if worths[side] == 0:
            grown[side | bit] = rows[side]
        elif worths[side] > 0:
            for other in near_among(side, below, sides, least, counts):
                grown[side & other | bit] = without(rows[other], worths[other], rows[side], worths[side])
    return grown


def near_among(side, others, sides, least, counts):
    """Those of others, among all sides, with which a side has a ridge in common, of least points or more.

    What two sides share is a ridge if no third side has all of it. This need not be looked at where one of
    the two has just one point more than least: no point of it lies in the span of its other ones.
    """
    many = least + 1
    # A solid has at most 16 points: their bits are counted by two looks at the table.
    near = [other for other in others if counts[side & other & 255] + counts[(side & other) >> 8] >= least]
    if counts[side & 255] + counts[side >> 8] == many:
        return near
    return [
        other
        for other in near
        if counts[other & 255] + counts[other >> 8] == many or are_alone(side & other, sides)
    ]


def ridges_among(sides, wide):
    """The triples (shared, one, other) of all ridges, shared being bits, one below other numbers of sides."""
    counts = count_table()
    number_of = {sides[number]: number for number in range(len(sides))}
    return [
        (sides[one] & other, one, number_of[other])
        for one in range(len(sides))
        for other in near_among(sides[one], sides[one + 1:], sides, wide - 1, counts)
    ]
