"""Whether one spindle lies over another one, and the papers that tell so."""

from spindleway.bits import first_with_all, has_all
from spindleway.checks import is_point, is_within
from spindleway.errors import BadNumber, BadPaper, Misfit
from spindleway.papers import Denial, Paper
from spindleway.spindles import check_spindle
from spindleway.walks import is_numbering


class Over(Paper):
    """For each side of the second spindle the side of the first one to which it is led; all is led well."""

    def __init__(self, sides):
        super().__init__("over", sides)
        self.sides = self.parts[0]


class Strays(Denial):
    """A side that no side holds."""

    def __init__(self, side):
        super().__init__("strays", side)
        self.side = self.parts[0]


class Leaps(Denial):
    """Two neighbours that are led neither to neighbours nor to the same side."""

    def __init__(self, one, other):
        super().__init__("leaps", one, other)
        self.one = self.parts[0]
        self.other = self.parts[1]


def check_pair(first, second):
    """Refuse two spindles that do not have the same ends, told by the indexes of their points."""
    check_spindle(first, "first")
    check_spindle(second, "second")
    if first.dimension != second.dimension:
        raise Misfit("dimension")
    if len(first.points) != len(second.points):
        raise Misfit("points")
    if first.upper != second.upper:
        raise Misfit("ends")


def first_holders(first, second):
    """For each side of second the first side of first that holds it, None where none does."""
    return tuple([first_with_all(first.solid.bits, side) for side in second.solid.bits])


def _first_leap(first, second, sides):
    """The first pair of neighbours of second that the sides to which they are led part, None if none."""
    for one in range(len(sides)):
        near_one = first.solid.neighbours[sides[one]]
        for other in second.solid.neighbours[one]:
            if other > one and sides[other] != sides[one] and sides[other] not in near_one:
                return one, other
    return None


def lies_over(first, second):
    """The Over that leads each side of second to the first one that holds it, or what denies it."""
    check_pair(first, second)
    sides = first_holders(first, second)
    if None in sides:
        return Strays(sides.index(None))
    leap = _first_leap(first, second, sides)
    if leap is not None:
        return Leaps(leap[0], leap[1])
    return Over(sides)


def leads_well(first, second, sides):
    """Whether any value tells, for each side of second, a side of first, and these lead it well."""
    if not is_point(sides, len(second.solid.sides)):
        return False
    if not all([is_within(side, 0, len(first.solid.sides) - 1) for side in sides]):
        return False
    if not all([has_all(first.solid.bits[side], lot) for side, lot in zip(sides, second.solid.bits)]):
        return False
    return _first_leap(first, second, sides) is None


def led_numbers(first, second, over, numbers):
    """For each side of second the number, in a numbering of first, of the side to which it is led."""
    check_pair(first, second)
    if type(over) is not Over or not leads_well(first, second, over.sides):
        raise BadPaper("over")
    if not is_point(numbers, len(first.solid.sides)):
        raise BadNumber("numbers")
    if not is_numbering(first.solid.neighbours, numbers):
        raise Misfit("numbers")
    return tuple([numbers[side] for side in over.sides])
