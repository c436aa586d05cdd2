"""Texts of integers and of points."""

from spindleway.errors import BadText

MOST_DIGITS = 60
# Python writes out at once only integers of some thousand digits, so greater ones are written in pieces.
PIECE_DIGITS = 60
PIECE = 10 ** 60


def written(number):
    """An integer of any size, written with digits, a minus ahead of one below 0."""
    pieces = []
    rest = abs(number)
    while rest >= PIECE:
        pieces.append(str(rest % PIECE).zfill(PIECE_DIGITS))
        rest = rest // PIECE
    pieces.append(str(rest))
    if number < 0:
        pieces.append("-")
    return "".join(pieces[::-1])


def written_point(point):
    """The integers of a point, with single blanks between."""
    return " ".join([written(number) for number in point])


def is_number_item(item):
    """Whether an item is an integer as it is written, of at most 60 digits."""
    digits = item[1:] if item.startswith("-") else item
    if not digits.isascii() or not digits.isdigit() or len(digits) > MOST_DIGITS:
        return False
    return not digits.startswith("0") or item == "0"


def points_in(text, most):
    """The points that a text tells, one more than their integers at least.

    The first point tells how many integers each has; most has at the place of each such number the most
    points that there may be, 0 where there are none of so many integers.
    """
    if not isinstance(text, str):
        raise BadText(0)
    items = text.split(" ")
    wide = 0
    while wide < len(items) and wide < len(most) - 1 and is_number_item(items[wide]):
        wide += 1
    _check_items(items, wide, most[wide])
    return [[int(item) for item in items[at:at + wide]] for at in range(0, len(items), wide + 1)]


def _check_items(items, wide, most):
    """Refuse the first item that is not of its form, or is one too many, or is missing.

    Points of so many integers, each with its / behind it, take wide + 1 items, but for the last / missing.
    """
    step = wide + 1
    for at in range(len(items)):
        if at % step < wide:
            right = is_number_item(items[at])
        else:
            right = items[at] == "/" and at < most * step - 1
        if not right:
            raise BadText(at)
    if len(items) % step != wide or len(items) < step * step - 1:
        raise BadText(len(items))
