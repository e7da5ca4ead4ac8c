"""lapfold.shares: fractions in lowest terms, bottom 1 or more."""

import unittest
from fractions import Fraction
from math import gcd

from lapfold.shares import minus, plus, share, times

LONG = 12345678901234567890123
TOPS = (0, 1, -1, 2, -2, 6, -6, 35, 10 ** 20, -10 ** 20 - 7, LONG, 6 * LONG)
BOTTOMS = (1, -1, 2, -2, 6, -9, 35, 10 ** 21, -3 * 10 ** 20, LONG, -LONG)


def as_share(fraction):
    return (fraction.numerator, fraction.denominator)


class Shares(unittest.TestCase):
    def assert_lowest(self, told):
        self.assertIs(told.__class__, tuple)
        self.assertEqual(len(told), 2)
        top, bottom = told
        self.assertIs(top.__class__, int)
        self.assertIs(bottom.__class__, int)
        self.assertGreaterEqual(bottom, 1)
        self.assertEqual(gcd(top, bottom), 1)

    def test_written_out(self):
        self.assertEqual(share(1, 2), (1, 2))
        self.assertEqual(share(6, 4), (3, 2))
        self.assertEqual(share(-6, 4), (-3, 2))
        self.assertEqual(share(6, -4), (-3, 2))
        self.assertEqual(share(-6, -4), (3, 2))
        self.assertEqual(share(7, 1), (7, 1))
        self.assertEqual(share(7, -1), (-7, 1))
        self.assertEqual(share(8, 2), (4, 1))

    def test_nought(self):
        for bottom in BOTTOMS:
            self.assertEqual(share(0, bottom), (0, 1))

    def test_long_numbers(self):
        self.assertEqual(share(6 * LONG, -4 * LONG), (-3, 2))
        self.assertEqual(share(10 ** 30, 10 ** 25), (100000, 1))
        self.assertEqual(share(LONG, LONG + 1), (LONG, LONG + 1))

    def test_lowest_terms(self):
        for top in TOPS:
            for bottom in BOTTOMS:
                told = share(top, bottom)
                self.assert_lowest(told)
                self.assertEqual(told, as_share(Fraction(top, bottom)))


class Reckoning(unittest.TestCase):
    def each_pair(self):
        fractions = [Fraction(top, bottom) for top in TOPS for bottom in BOTTOMS]
        for one in fractions:
            for other in fractions:
                yield one, other

    def test_written_out(self):
        self.assertEqual(plus((1, 6), (1, 3)), (1, 2))
        self.assertEqual(plus((1, 2), (-1, 2)), (0, 1))
        self.assertEqual(minus((1, 6), (1, 3)), (-1, 6))
        self.assertEqual(minus((5, 6), (5, 6)), (0, 1))
        self.assertEqual(times((2, 3), (3, 4)), (1, 2))
        self.assertEqual(times((-2, 3), (-3, 2)), (1, 1))
        self.assertEqual(times((0, 1), (-3, 7)), (0, 1))

    def test_plus(self):
        for one, other in self.each_pair():
            self.assertEqual(plus(as_share(one), as_share(other)), as_share(one + other))

    def test_minus(self):
        for one, other in self.each_pair():
            self.assertEqual(minus(as_share(one), as_share(other)), as_share(one - other))

    def test_times(self):
        for one, other in self.each_pair():
            self.assertEqual(times(as_share(one), as_share(other)), as_share(one * other))

    def test_asked_again(self):
        for reckon in (plus, minus, times):
            self.assertEqual(reckon((3, 4), (-5, 6)), reckon((3, 4), (-5, 6)))


if __name__ == "__main__":
    unittest.main()
