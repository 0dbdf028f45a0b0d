"""[0.5] and [7.1]: fractions lowered, compared, added and taken times a whole number."""

import itertools
import math
import unittest
from fractions import Fraction

from groupcost.fractions import common_divisor, fraction, fraction_less, fraction_sum, fraction_times, is_fraction
from samples import HUGE

NUMBERS = [-12, -7, -6, -4, -3, -2, -1, 0, 1, 2, 3, 4, 6, 7, 12]
BOTTOMS = [number for number in NUMBERS if number != 0]
LONG = [HUGE, -HUGE, HUGE + 1, 3 * HUGE, 1 - 2 * HUGE, 10 ** 199]


def pair_of(value):
    return (value.numerator, value.denominator)


SOME = sorted({pair_of(Fraction(top, bottom)) for top in NUMBERS for bottom in BOTTOMS})
SOME_LONG = [pair_of(Fraction(top, bottom)) for top in LONG for bottom in LONG] + [(0, 1), (1, 1), (-1, 2)]


class DivisorTest(unittest.TestCase):
    def test_many(self):
        for one, other in itertools.product(NUMBERS + LONG, NUMBERS + LONG):
            if (one, other) != (0, 0):
                self.assertEqual(common_divisor(one, other), math.gcd(one, other))


class FractionTest(unittest.TestCase):
    def test_ordinary(self):
        self.assertEqual(fraction(3, 2), (3, 2))
        self.assertEqual(fraction(6, 4), (3, 2))
        self.assertEqual(fraction(-6, 4), (-3, 2))
        self.assertEqual(fraction(6, -4), (-3, 2))
        self.assertEqual(fraction(-6, -4), (3, 2))
        self.assertEqual(fraction(8, 2), (4, 1))
        self.assertEqual(fraction(5, 1), (5, 1))
        self.assertEqual(fraction(5, -1), (-5, 1))
        self.assertEqual(fraction(7, 7), (1, 1))

    def test_nought(self):
        for bottom in BOTTOMS + LONG:
            self.assertEqual(fraction(0, bottom), (0, 1))

    def test_many_of_either_sign(self):
        for top, bottom in itertools.product(NUMBERS + LONG, BOTTOMS + LONG):
            self.assertEqual(fraction(top, bottom), pair_of(Fraction(top, bottom)))

    def test_nothing_is_rounded(self):
        self.assertEqual(fraction(HUGE * (HUGE + 1), HUGE * HUGE), (HUGE + 1, HUGE))
        self.assertEqual(fraction(HUGE * (HUGE + 2), -3 * HUGE), pair_of(Fraction(-(HUGE + 2), 3)))
        self.assertEqual(fraction(2 * HUGE, HUGE), (2, 1))


class LessTest(unittest.TestCase):
    def test_ordinary(self):
        self.assertIs(fraction_less((1, 3), (1, 2)), True)
        self.assertIs(fraction_less((1, 2), (1, 3)), False)
        self.assertIs(fraction_less((-1, 2), (-1, 3)), True)
        self.assertIs(fraction_less((-1, 3), (-1, 2)), False)
        self.assertIs(fraction_less((1, 2), (1, 2)), False)
        self.assertIs(fraction_less((-1, 2), (1, 2)), True)
        self.assertIs(fraction_less((1, 2), (-1, 2)), False)
        self.assertIs(fraction_less((0, 1), (1, 9)), True)
        self.assertIs(fraction_less((-1, 9), (0, 1)), True)
        self.assertIs(fraction_less((0, 1), (0, 1)), False)
        self.assertIs(fraction_less((2, 1), (5, 2)), True)

    def test_many(self):
        for some in (SOME, SOME_LONG):
            for one, other in itertools.product(some, some):
                self.assertIs(fraction_less(one, other), Fraction(*one) < Fraction(*other))

    def test_nothing_is_rounded(self):
        self.assertIs(fraction_less((HUGE, HUGE + 1), (HUGE + 1, HUGE + 2)), True)
        self.assertIs(fraction_less((HUGE + 1, HUGE + 2), (HUGE, HUGE + 1)), False)


class SumTest(unittest.TestCase):
    def test_ordinary(self):
        self.assertEqual(fraction_sum((1, 2), (1, 3)), (5, 6))
        self.assertEqual(fraction_sum((1, 6), (1, 3)), (1, 2))
        self.assertEqual(fraction_sum((1, 2), (1, 2)), (1, 1))
        self.assertEqual(fraction_sum((-3, 2), (1, 1)), (-1, 2))
        self.assertEqual(fraction_sum((0, 1), (-3, 2)), (-3, 2))

    def test_sums_that_come_to_nought(self):
        for top, bottom in SOME + SOME_LONG:
            self.assertEqual(fraction_sum((top, bottom), (-top, bottom)), (0, 1))

    def test_many(self):
        for some in (SOME, SOME_LONG[::3]):
            for one, other in itertools.product(some, some):
                self.assertEqual(fraction_sum(one, other), pair_of(Fraction(*one) + Fraction(*other)))


class TimesTest(unittest.TestCase):
    def test_ordinary(self):
        self.assertEqual(fraction_times(3, (1, 2)), (3, 2))
        self.assertEqual(fraction_times(4, (3, 2)), (6, 1))
        self.assertEqual(fraction_times(-2, (3, 4)), (-3, 2))
        self.assertEqual(fraction_times(-2, (-3, 4)), (3, 2))
        self.assertEqual(fraction_times(1, (-3, 4)), (-3, 4))

    def test_times_nought(self):
        for one in SOME + SOME_LONG:
            self.assertEqual(fraction_times(0, one), (0, 1))

    def test_many(self):
        for many, one in itertools.product(NUMBERS + LONG, SOME + SOME_LONG[::5]):
            self.assertEqual(fraction_times(many, one), pair_of(many * Fraction(*one)))


class IsFractionTest(unittest.TestCase):
    def test_fractions(self):
        for one in SOME + SOME_LONG:
            self.assertIs(is_fraction(one), True)

    def test_pairs_that_are_not_lowered(self):
        for top, bottom in itertools.product(NUMBERS, [0] + BOTTOMS):
            lowered = bottom != 0 and pair_of(Fraction(top, bottom)) == (top, bottom)
            self.assertIs(is_fraction((top, bottom)), lowered, (top, bottom))

    def test_other_kinds(self):
        for value in (None, 1, "1/2", [1, 2], (1,), (1, 2, 3), (1, "2"), ("1", 2), (1, None), (True, 2), (1, True)):
            self.assertIs(is_fraction(value), False, value)


if __name__ == "__main__":
    unittest.main()
