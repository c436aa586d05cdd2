import unittest
from itertools import combinations

from spindleway.bits import are_alone, bits_of, count_table, first_with_all, has_all, is_meet, lot_of


class BitsTest(unittest.TestCase):
    def test_there_and_back(self):
        for many in range(6):
            for lot in combinations(range(12), many):
                self.assertEqual(lot_of(bits_of(lot)), lot)
                self.assertEqual(bits_of(lot), sum(2 ** at for at in lot))
        self.assertEqual(lot_of(bits_of((0, 47))), (0, 47))
        self.assertEqual(lot_of(0), ())

    def test_has_all(self):
        for one in range(32):
            for other in range(32):
                self.assertIs(has_all(one, other), set(lot_of(other)) <= set(lot_of(one)))

    def test_first_with_all(self):
        sides = (0b0111, 0b1011, 0b1101)
        for lot in range(16):
            having = [number for number in range(3) if has_all(sides[number], lot)]
            self.assertEqual(first_with_all(sides, lot), having[0] if having else None)
        self.assertIsNone(first_with_all((), 0))

    def test_is_meet(self):
        sides = (0b0111, 0b1011, 0b1101)
        for lot in range(16):
            having = [side for side in sides if has_all(side, lot)]
            common = set.intersection(*[set(lot_of(side)) for side in having]) if having else None
            self.assertIs(is_meet(lot, sides), common == set(lot_of(lot)))
        self.assertEqual([lot for lot in range(16) if is_meet(lot, sides)], [1, 3, 5, 7, 9, 11, 13])

    def test_are_alone(self):
        sides = (0b0111, 0b1011, 0b1101)
        self.assertEqual([lot for lot in range(16) if are_alone(lot, sides)], [2, 3, 4, 5, 8, 9])

    def test_count_table(self):
        self.assertEqual(count_table(), [bin(bits).count("1") for bits in range(256)])


if __name__ == "__main__":
    unittest.main()
