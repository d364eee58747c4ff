"""The fractions of point 2: lowest terms, bottom from 1 on."""

import fractions
import math
import unittest

from crewpay.fractions import added, greatest_divisor, lowest, rounded_up, whole_part


class Lowest(unittest.TestCase):
    def test_ordinary(self):
        self.assertEqual(lowest(480, 28), (120, 7))
        self.assertEqual(lowest(6, 4), (3, 2))
        self.assertEqual(lowest(7, 5), (7, 5))

    def test_whole(self):
        self.assertEqual(lowest(12, 4), (3, 1))
        self.assertEqual(lowest(5, 5), (1, 1))
        self.assertEqual(lowest(9, 1), (9, 1))

    def test_none(self):
        self.assertEqual(lowest(0, 1), (0, 1))
        self.assertEqual(lowest(0, 1000), (0, 1))

    def test_below_nought(self):
        self.assertEqual(lowest(-6, 4), (-3, 2))
        self.assertEqual(lowest(-4, 4), (-1, 1))

    def test_great(self):
        self.assertEqual(lowest(10 ** 29, 1000), (10 ** 26, 1))
        self.assertEqual(lowest(10 ** 29 + 1, 1000), (10 ** 29 + 1, 1000))

    def test_as_pythons_own(self):
        for top in range(-60, 61):
            for bottom in range(1, 61):
                wanted = fractions.Fraction(top, bottom)
                told = lowest(top, bottom)
                self.assertIs(type(told), tuple)
                self.assertEqual(told, (wanted.numerator, wanted.denominator))


class GreatestDivisor(unittest.TestCase):
    def test_ordinary(self):
        self.assertEqual(greatest_divisor(12, 18), 6)
        self.assertEqual(greatest_divisor(18, 12), 6)
        self.assertEqual(greatest_divisor(8, 9), 1)

    def test_nought_and_below(self):
        self.assertEqual(greatest_divisor(0, 5), 5)
        self.assertEqual(greatest_divisor(-12, 18), 6)


class Reckoned(unittest.TestCase):
    def test_added(self):
        self.assertEqual(added((1, 2), (1, 3)), (5, 6))
        self.assertEqual(added((1, 6), (1, 3)), (1, 2))
        self.assertEqual(added((1, 2), (-1, 2)), (0, 1))
        self.assertEqual(added((0, 1), (120, 7)), (120, 7))

    def test_as_pythons_own(self):
        some = [(top, bottom) for top in range(-9, 10) for bottom in range(1, 10)]
        for top, bottom in some:
            one = fractions.Fraction(top, bottom)
            self.assertEqual(whole_part(lowest(top, bottom)), math.floor(one))
            self.assertEqual(rounded_up(top, bottom), math.ceil(one))
            for other in some:
                wanted = one + fractions.Fraction(*other)
                self.assertEqual(added(lowest(top, bottom), lowest(*other)), (wanted.numerator, wanted.denominator))

    def test_great(self):
        self.assertEqual(whole_part((10 ** 40 + 1, 3)), 10 ** 40 // 3)
        self.assertEqual(rounded_up(10 ** 40, 3), 10 ** 40 // 3 + 1)
        self.assertEqual(rounded_up(-(10 ** 40), 3), -(10 ** 40 // 3))


if __name__ == "__main__":
    unittest.main()
