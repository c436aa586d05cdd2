import unittest

from spindleway import errors
from spindleway.errors import (
    BadLikeness, BadLot, BadNumber, BadPaper, BadPoint, BadSolid, BadSpindle, BadText,
    Impossible, Misfit, SolidError, Spare, TooMany, Twice,
)
from spindleway.papers import Denial

FIELDS = {
    BadNumber: ("part",), BadPoint: ("part",), BadLot: ("part",), BadSolid: ("part",),
    BadSpindle: ("part",), BadLikeness: ("part",), BadPaper: ("part",), Misfit: ("part",),
    Twice: ("value",), Spare: ("value",), TooMany: ("what", "most"), Impossible: ("paper",), BadText: ("item",),
}
VALUES = (
    None, "points", 0, True, -7, 10 ** 5000, (), [], [1, [2]], {"a": [1]}, Denial("no"), object(), float("nan"), int,
)


class ErrorsTest(unittest.TestCase):
    def test_bases(self):
        self.assertEqual(SolidError.__bases__, (ValueError,))
        for error in FIELDS:
            self.assertEqual(error.__bases__, (SolidError,), error)

    def test_these_are_all(self):
        found = {value for value in vars(errors).values() if isinstance(value, type)}
        self.assertEqual(found, {SolidError, *FIELDS})

    def test_fields_by_place_and_by_name(self):
        for error, names in FIELDS.items():
            for one in VALUES:
                for other in VALUES if len(names) == 2 else [None]:
                    worths = (one, other)[:len(names)]
                    for made in (error(*worths), error(**dict(zip(names, worths)))):
                        self.assertEqual(tuple(vars(made)), names)
                        for name, worth in zip(names, worths):
                            self.assertIs(getattr(made, name), worth)

    def test_names_in_another_order(self):
        made = TooMany(most=16, what="points")
        self.assertEqual((made.what, made.most), ("points", 16))
        made = TooMany("points", most=16)
        self.assertEqual((made.what, made.most), ("points", 16))

    def test_fields_are_wanted(self):
        for error, names in FIELDS.items():
            with self.assertRaises(TypeError):
                error()
            with self.assertRaises(TypeError):
                error(*names, None)
            with self.assertRaises(TypeError):
                error(other=1)

    def test_caught_by_every_base(self):
        for base in (ValueError, SolidError, BadNumber):
            with self.assertRaises(base):
                raise BadNumber("heights")

    def test_a_list_is_kept_as_it_was_passed(self):
        value = [1, [2]]
        made = Twice(value)
        value[1].append(3)
        self.assertIs(made.value, value)
        self.assertEqual(made.value, [1, [2, 3]])


if __name__ == "__main__":
    unittest.main()
