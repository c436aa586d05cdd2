"""Whether a lift lies well, and numberings led up by one that does."""

from spindleway.bits import first_with_all
from spindleway.checks import are_integers, is_point
from spindleway.errors import BadNumber, BadPaper, Misfit
from spindleway.lifts import lifted
from spindleway.overs import Strays
from spindleway.papers import Denial, Paper
from spindleway.walks import is_numbering


class Well(Paper):
    """For each side of the lifted spindle the number of the side that takes it; the lift lies well."""

    def __init__(self, sides):
        super().__init__("well", sides)
        self.sides = self.parts[0]


class Shut(Denial):
    """A neighbour of the drawn end that is taken by another side than the drawn end."""

    def __init__(self, side):
        super().__init__("shut", side)
        self.side = self.parts[0]


class Taking:
    """What the sides of a spindle take of a lift of it.

    It keeps grown, the lifted Spindle; takers, for each side of it the number of the side that takes it, None where
    none does; and shut, the numbers, ascending, of the neighbours of its drawn end that another side takes.
    """

    def __init__(self, spindle, point, heights, by):
        self.grown = lifted(spindle, point, heights, by)
        copies = 1 << point | 1 << len(spindle.points)
        self.takers = tuple([
            first_with_all(spindle.solid.bits, _needed_of(bits, copies, 1 << point)) for bits in self.grown.solid.bits
        ])
        # The drawn end is the one that does not have the point, here and there.
        self.drawn = self.grown.bottom if point in spindle.upper else self.grown.top
        self.taken_end = spindle.bottom if point in spindle.upper else spindle.top
        self.shut = [
            side
            for side in self.grown.solid.neighbours[self.drawn]
            if self.takers[side] is not None and self.takers[side] != self.taken_end
        ]

    def is_well(self):
        """Whether the lift lies well."""
        return None not in self.takers and not self.shut

    def is_told_by(self, value):
        """Whether any value is the Well of this lift."""
        if type(value) is not Well or not self.is_well():
            return False
        return are_integers(value.sides) and value.sides == self.takers


def _needed_of(bits, copies, point):
    """The points that a taker of a side must have: those that are no copies, and the point if both copies are there."""
    shared = bits & copies
    if shared == copies:
        return bits - shared | point
    return bits - shared


def well(spindle, point, heights, by):
    """The Well of a lift, or the Strays or else the Shut of the first side that denies it."""
    taking = Taking(spindle, point, heights, by)
    if None in taking.takers:
        return Strays(taking.takers.index(None))
    if taking.shut:
        return Shut(taking.shut[0])
    return Well(taking.takers)


def led_up(spindle, point, heights, by, well, numbers):
    """The numbering of the lifted spindle's sides to which a numbering of the spindle's sides is led up."""
    taking = Taking(spindle, point, heights, by)
    if not taking.is_told_by(well):
        raise BadPaper("well")
    if not is_point(numbers, len(spindle.solid.sides)):
        raise BadNumber("numbers")
    if not is_numbering(spindle.solid.neighbours, numbers):
        raise Misfit("numbers")
    grown = [numbers[side] for side in taking.takers]
    grown[taking.drawn] += 1
    return tuple(grown)
