"""The sides of some points, with their planes, and the ridges between them.

The callers have checked the points: unlike ones of as many integers each, that span as many dimensions.
"""

from spindleway.algebra import lifted_point, narrowed, product_of, span_among, unit_rows


def planes_by_side(points):
    """A dict from each side, a lot, to its plane (row, number) that has all other points below."""
    lifted = [lifted_point(point) for point in points]
    found = {}
    for row in _rows_through(lifted):
        side, sign = _side_and_sign(row, lifted)
        if sign != 0:
            found[side] = (tuple([-sign * number for number in row[:-1]]), sign * row[-1])
    return found


def _rows_through(lifted):
    """For each choice of lifted points that just span a plane, the row whose product with them is 0."""
    wide = len(lifted[0])
    held = [(0, unit_rows(wide))]
    for _ in range(wide - 1):
        held = [chosen for start, rows in held for chosen in _with_one_more(lifted, start, rows)]
    return [rows[0] for _, rows in held]


def _with_one_more(lifted, start, rows):
    """The choices that come by one more lifted point from start on: where the next may begin, rows."""
    chosen = []
    for at in range(start, len(lifted)):
        fewer = narrowed(rows, lifted[at])
        if len(fewer) < len(rows):
            chosen.append((at + 1, fewer))
    return chosen


def _side_and_sign(row, lifted):
    """The lot with the product 0 and the sign of all other products; the sign 0 if they have both."""
    side = []
    sign = 0
    for at in range(len(lifted)):
        product = product_of(row, lifted[at])
        if product == 0:
            side.append(at)
        elif sign == 0:
            sign = 1 if product > 0 else -1
        elif (product > 0) != (sign > 0):
            return (), 0
    return tuple(side), sign


def ridges_among(points, sides):
    """The triples (lot, one, other) of all ridges, ascending, one below other being numbers of sides."""
    found = []
    for other in range(len(sides)):
        for one in range(other):
            shared = tuple([point for point in sides[one] if point in sides[other]])
            if _is_ridge(points, shared):
                found.append((shared, one, other))
    return tuple(sorted(found))


def _is_ridge(points, shared):
    wide = len(points[0])
    # Fewer points cannot span enough, and most pairs of sides end here.
    if len(shared) < wide - 1:
        return False
    return span_among([points[at] for at in shared], wide) == wide - 2
