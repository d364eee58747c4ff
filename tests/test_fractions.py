"""The fractions of point 2: lowest terms, bottom from 1 on."""

import fractions
import unittest

from crewpay.fractions import greatest_divisor, lowest


class Lowest(unittest.TestCase):
    def test_ordinary(self):
        self.assertEqual(lowest(480, 28), (120, 7))
        self.assertEqual(lowest(6, 4), (3, 2))
        self.assertEqual(lowest(7, 5), (7, 5))

    def test_whole(self):
        self.assertEqual(lowest(12, 4), (3, 1))
        self.assertEqual(lowest(5, 5), (1, 1))
        self.assertEqual(lowest(9, 1), (9, 1))

    def test_none(self):
        self.assertEqual(lowest(0, 1), (0, 1))
        self.assertEqual(lowest(0, 1000), (0, 1))

    def test_below_nought(self):
        self.assertEqual(lowest(-6, 4), (-3, 2))
        self.assertEqual(lowest(-4, 4), (-1, 1))

    def test_great(self):
        self.assertEqual(lowest(10 ** 29, 1000), (10 ** 26, 1))
        self.assertEqual(lowest(10 ** 29 + 1, 1000), (10 ** 29 + 1, 1000))

    def test_as_pythons_own(self):
        for top in range(-60, 61):
            for bottom in range(1, 61):
                wanted = fractions.Fraction(top, bottom)
                told = lowest(top, bottom)
                self.assertIs(type(told), tuple)
                self.assertEqual(told, (wanted.numerator, wanted.denominator))


class GreatestDivisor(unittest.TestCase):
    def test_ordinary(self):
        self.assertEqual(greatest_divisor(12, 18), 6)
        self.assertEqual(greatest_divisor(18, 12), 6)
        self.assertEqual(greatest_divisor(8, 9), 1)

    def test_nought_and_below(self):
        self.assertEqual(greatest_divisor(0, 5), 5)
        self.assertEqual(greatest_divisor(-12, 18), 6)


if __name__ == "__main__":
    unittest.main()
