"""Points 3, 9, 22 and 23: fractions."""

import random
import unittest
from fractions import Fraction

from tests.tools import Case, ODD_VALUES
from trueatlas.fractions import fraction, is_fraction, less, minus, over, plus, times

NO_INTEGERS = [True, False, None, "1", 1.0, (1, 1), (), [1], b"1"]
NO_FRACTIONS = ODD_VALUES + [
    (2, 2), (0, 2), (0, 0), (1, 0), (1, -1), (-1, -1), (0, -1), (6, 4), (-6, 4), (True, 1), (1, True), (0, True),
    (1.0, 1), (1, 2, 3), [1, 2], ("1", "2"), ((1, 2), (1, 2)), (10 ** 20, 10), (1, None),
]
BIG = 10 ** 20


def told(value):
    """The fraction as this program writes one of Python's."""
    return (value.numerator, value.denominator)


def some_fractions():
    """Small ones, great ones, and those around 0 and 1."""
    source = random.Random(9)
    found = [(0, 1), (1, 1), (-1, 1), (1, 2), (-1, 2), (BIG, 1), (1, BIG), (-BIG, BIG + 1), (BIG + 1, BIG)]
    for reach in (3, 50, BIG * BIG):
        for _ in range(8):
            found.append(told(Fraction(source.randint(-reach, reach), source.randint(1, reach))))
    return found


class FractionTest(Case):

    def test_lowest_terms(self):
        self.same(fraction(6, 4), (3, 2))
        self.same(fraction(-6, 4), (-3, 2))
        self.same(fraction(7, 7), (1, 1))
        self.same(fraction(5, 1), (5, 1))
        self.same(fraction(12, 3), (4, 1))

    def test_negative_divisor(self):
        self.same(fraction(6, -4), (-3, 2))
        self.same(fraction(-6, -4), (3, 2))
        self.same(fraction(1, -1), (-1, 1))

    def test_nothing(self):
        for d in (1, 2, -1, -9, BIG, -BIG):
            self.same(fraction(0, d), (0, 1))

    def test_any_size(self):
        self.same(fraction(BIG, 10), (BIG // 10, 1))
        self.same(fraction(-3 * BIG, 2 * BIG), (-3, 2))
        self.same(fraction(BIG + 1, BIG), (BIG + 1, BIG))
        huge = 10 ** 6000
        self.same(fraction(huge, -huge) + fraction(2, 2), (-1, 1, 1, 1))

    def test_as_python_tells(self):
        for n in range(-12, 13):
            for d in list(range(-12, 0)) + list(range(1, 13)):
                self.same(fraction(n, d), told(Fraction(n, d)))
                self.assertIs(is_fraction(fraction(n, d)), True)

    def test_refused(self):
        self.refuses(fraction, ("n", 1, NO_INTEGERS), ("d", 2, NO_INTEGERS + [0]))
        self.bad("n", fraction, True, 0)
        self.bad("d", fraction, 0, 0)


class IsFractionTest(Case):

    def test_fractions(self):
        for value in some_fractions():
            self.assertIs(is_fraction(value), True, value)

    def test_others(self):
        for value in NO_FRACTIONS:
            self.assertIs(is_fraction(value), False, value)

    def test_all_small_pairs(self):
        for n in range(-9, 10):
            for d in range(-9, 10):
                right = d >= 1 and told(Fraction(n, d)) == (n, d)
                self.assertIs(is_fraction((n, d)), right, (n, d))

    def test_an_integer_is_none(self):
        self.assertIs(is_fraction(5), False)
        self.assertIs(is_fraction((5, 1)), True)


class CalculationTest(Case):

    def test_as_python_tells(self):
        for first in some_fractions():
            for second in some_fractions():
                a, b = Fraction(*first), Fraction(*second)
                self.same(plus(first, second), told(a + b))
                self.same(minus(first, second), told(a - b))
                self.same(times(first, second), told(a * b))
                self.assertIs(less(first, second), a < b)
                if b:
                    self.same(over(first, second), told(a / b))

    def test_some(self):
        self.same(plus((1, 2), (1, 3)), (5, 6))
        self.same(minus((1, 2), (1, 2)), (0, 1))
        self.same(times((2, 3), (3, 2)), (1, 1))
        self.same(over((1, 2), (-1, 4)), (-2, 1))
        self.same(over((0, 1), (-5, 7)), (0, 1))
        self.assertIs(less((1, 3), (1, 2)), True)
        self.assertIs(less((1, 2), (1, 2)), False)
        self.assertIs(less((-1, 2), (-1, 3)), True)

    def test_refused(self):
        for call in (plus, minus, times, over, less):
            self.refuses(call, ("first", (1, 2), NO_FRACTIONS), ("second", (2, 3), NO_FRACTIONS))

    def test_nothing_divides(self):
        self.bad("second", over, (1, 2), (0, 1))
        self.bad("second", over, (0, 1), (0, 1))
        self.bad("first", over, (2, 2), (0, 1))


if __name__ == "__main__":
    unittest.main()
