"""The errors of the package. Each one keeps its fields as they were passed.

No message is made of the fields: they may be any values, also ones that cannot be written out.
"""


class SolidError(ValueError):
    """The base of all errors of the package."""


class BadNumber(SolidError):
    """An integer, or a list of integers, is not as told."""

    def __init__(self, part):
        self.part = part


class BadPoint(SolidError):
    """A point, or a list of points, is not as told."""

    def __init__(self, part):
        self.part = part


class BadLot(SolidError):
    """A lot is not as told."""

    def __init__(self, part):
        self.part = part


class BadSolid(SolidError):
    """What is told as a solid is none."""

    def __init__(self, part):
        self.part = part


class BadSpindle(SolidError):
    """What is told as a spindle is none."""

    def __init__(self, part):
        self.part = part


class BadLikeness(SolidError):
    """What is told as a likeness is none."""

    def __init__(self, part):
        self.part = part


class BadPaper(SolidError):
    """What is told as a paper is none, or not a right one."""

    def __init__(self, part):
        self.part = part


class Misfit(SolidError):
    """Values that are right each by itself do not fit together."""

    def __init__(self, part):
        self.part = part


class Twice(SolidError):
    """A value stands there already."""

    def __init__(self, value):
        self.value = value


class Spare(SolidError):
    """A point is no corner."""

    def __init__(self, value):
        self.value = value


class TooMany(SolidError):
    """There are more than most."""

    def __init__(self, what, most):
        self.what = what
        self.most = most


class Impossible(SolidError):
    """There is no such value, as a paper shows."""

    def __init__(self, paper):
        self.paper = paper


class BadText(SolidError):
    """An item of a text cannot stand."""

    def __init__(self, item):
        self.item = item
