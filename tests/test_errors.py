"""The refusals of points 6 and 15, and of the interface's section on crewpay/errors.py."""

import unittest

from crewpay import errors
from crewpay.errors import Faulty, TooMuch, WageError

OF_A_TEXT = (
    "NoArticles", "NoPages", "NoPage", "NoRank", "NoSum", "NoMan", "Twice",
    "TooMany", "NotThere", "NothingLeft", "NoText", "NoRow",
)
ALL = OF_A_TEXT + ("Faulty", "TooMuch")


class Family(unittest.TestCase):
    def test_wage_error_is_a_value_error(self):
        self.assertEqual(WageError.__bases__, (ValueError,))

    def test_each_stands_straight_under_wage_error(self):
        for name in ALL:
            with self.subTest(name):
                self.assertEqual(getattr(errors, name).__bases__, (WageError,))

    def test_none_stands_under_another_one(self):
        for name in ALL:
            for other in ALL:
                if name != other:
                    with self.subTest(name, other=other):
                        self.assertFalse(issubclass(getattr(errors, name), getattr(errors, other)))

    def test_the_fourteen_are_all_that_stand_under_wage_error(self):
        self.assertEqual(len(set(ALL)), 14)
        self.assertEqual(sorted(kind.__name__ for kind in WageError.__subclasses__()), sorted(ALL))

    def test_each_keeps_its_name(self):
        for name in ALL:
            self.assertEqual(getattr(errors, name).__name__, name)


class Made(unittest.TestCase):
    def test_of_a_text(self):
        for name in OF_A_TEXT:
            with self.subTest(name):
                kind = getattr(errors, name)
                with self.assertRaises(kind) as caught:
                    raise kind("why")
                self.assertIsInstance(caught.exception, WageError)
                self.assertIsInstance(caught.exception, ValueError)

    def test_faulty_of_its_faults(self):
        for faults in ((("", 3, "lost"), ("ann", 5, "two")), (("ann", 10 ** 12, "turn"),), ()):
            with self.subTest(faults):
                self.assertEqual(Faulty(faults).faults, faults)
                self.assertEqual(Faulty(faults=faults).faults, faults)

    def test_too_much_of_the_most(self):
        for most in (0, 1, 10 ** 9, 10 ** 20):
            with self.subTest(most):
                self.assertEqual(TooMuch(most).most, most)
                self.assertEqual(TooMuch(most=most).most, most)

    def test_fields_are_each_refusals_own(self):
        first, second = TooMuch(1), TooMuch(2)
        self.assertEqual((first.most, second.most), (1, 2))
        first, second = Faulty((("ann", 1, "two"),)), Faulty((("bob", 2, "turn"),))
        self.assertEqual((first.faults, second.faults), ((("ann", 1, "two"),), (("bob", 2, "turn"),)))

    def test_fields_are_there_when_caught(self):
        with self.assertRaises(WageError) as caught:
            raise Faulty((("ann", 1, "two"),))
        self.assertEqual(caught.exception.faults, (("ann", 1, "two"),))
        with self.assertRaises(ValueError) as caught:
            raise TooMuch(7)
        self.assertEqual(caught.exception.most, 7)


if __name__ == "__main__":
    unittest.main()
