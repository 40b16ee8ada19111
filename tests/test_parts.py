"""[3] Parts: pairs in lowest terms, under 1 or more."""

import unittest
from fractions import Fraction
from math import gcd

from heedless.errors import BadPart
from heedless.parts import below, less, part, plus, times

LONG = 987654321098765432109876543210
NUMBERS = [0, 1, -1, 2, -2, 3, 6, -6, 7, 12, -15, 100, 999999999, -999999999, 10 ** 29, -(10 ** 29),
           LONG, -LONG, LONG - 1, 2 ** 97, -(2 ** 97), 6 * 10 ** 28]
SOME = [(0, 1), (1, 1), (-1, 1), (1, 2), (-1, 2), (2, 3), (-7, 6), (5, 12), (LONG, 1), (1, LONG), (-LONG, LONG - 1),
        (10 ** 29, 7), (-(10 ** 29) - 1, 10 ** 29)]


def pair(fraction):
    return fraction.numerator, fraction.denominator


class PartTest(unittest.TestCase):
    def test_lowest_terms(self):
        for over in NUMBERS:
            for under in NUMBERS:
                if under != 0:
                    told = part(over, under)
                    self.assertIsInstance(told, tuple)
                    self.assertEqual(told, pair(Fraction(over, under)))
                    self.assertGreaterEqual(told[1], 1)
                    self.assertEqual(gcd(told[0], told[1]), 1)

    def test_ordinary(self):
        self.assertEqual(part(6, 4), (3, 2))
        self.assertEqual(part(6, -4), (-3, 2))
        self.assertEqual(part(-6, -4), (3, 2))
        self.assertEqual(part(0, 5), (0, 1))
        self.assertEqual(part(0, -5), (0, 1))
        self.assertEqual(part(-5, 5), (-1, 1))

    def test_under_left_out(self):
        for over in NUMBERS:
            self.assertEqual(part(over), (over, 1))

    def test_bad_part_where_under_is_nought(self):
        for over in NUMBERS:
            with self.assertRaises(BadPart) as caught:
                part(over, 0)
            self.assertEqual(caught.exception.word, "BadPart")
            with self.assertRaises(BadPart):
                part(under=0, over=over)

    def test_by_name(self):
        self.assertEqual(part(over=4, under=-6), (-2, 3))
        self.assertEqual(part(under=8, over=4), (1, 2))
        self.assertEqual(part(over=4), (4, 1))
        self.assertEqual(plus(other=(1, 3), one=(1, 2)), (5, 6))
        self.assertEqual(less(other=(1, 3), one=(1, 2)), (1, 6))
        self.assertEqual(times(other=(2, 3), one=(1, 2)), (1, 3))
        self.assertIs(below(other=(1, 3), one=(1, 2)), False)
        self.assertIs(below(one=(1, 3), other=(1, 2)), True)


class ReckonTest(unittest.TestCase):
    def test_plus_less_times(self):
        for one in SOME:
            for other in SOME:
                first, second = Fraction(*one), Fraction(*other)
                self.assertEqual(plus(one, other), pair(first + second))
                self.assertEqual(less(one, other), pair(first - second))
                self.assertEqual(times(one, other), pair(first * second))
                for told in (plus(one, other), less(one, other), times(one, other)):
                    self.assertIsInstance(told, tuple)

    def test_below(self):
        for one in SOME:
            for other in SOME:
                self.assertIs(below(one, other), Fraction(*one) < Fraction(*other))

    def test_nought_is_one_pair(self):
        self.assertEqual(less((2, 7), (2, 7)), (0, 1))
        self.assertEqual(times((0, 1), (-3, 7)), (0, 1))
        self.assertEqual(plus((-3, 7), (3, 7)), (0, 1))


if __name__ == "__main__":
    unittest.main()
