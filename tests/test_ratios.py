"""How a fraction is told: nothing in common, the lower number 1 or more, 0 as 0 1."""

import unittest
from fractions import Fraction

from edgetold.ratios import ONE, ZERO, divided, minus, plus, ratio, times

SOME = [Fraction(upper, lower) for upper in (-99, -12, -1, 0, 1, 6, 10 ** 40) for lower in (1, 4, 9, 35, 3 ** 50)]


def pair(fraction):
    return (fraction.numerator, fraction.denominator)


class Ratios(unittest.TestCase):
    def test_told_form(self):
        self.assertEqual((ZERO, ONE), ((0, 1), (1, 1)))
        self.assertEqual(ratio(0, 17), (0, 1))
        self.assertEqual(ratio(0, -17), (0, 1))
        self.assertEqual(ratio(6, 4), (3, 2))
        self.assertEqual(ratio(-6, 4), (-3, 2))
        self.assertEqual(ratio(6, -4), (-3, 2))
        self.assertEqual(ratio(-6, -4), (3, 2))

    def test_reckoning(self):
        for x in SOME:
            for y in SOME:
                self.assertEqual(plus(pair(x), pair(y)), pair(x + y))
                self.assertEqual(minus(pair(x), pair(y)), pair(x - y))
                self.assertEqual(times(pair(x), pair(y)), pair(x * y))
                if y != 0:
                    self.assertEqual(divided(pair(x), pair(y)), pair(x / y))

    def test_nothing_is_divided_by_0(self):
        for x in SOME:
            with self.assertRaises(ZeroDivisionError):
                divided(pair(x), ZERO)


if __name__ == "__main__":
    unittest.main()
