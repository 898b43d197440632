"""Quotients."""

import unittest
from fractions import Fraction
from itertools import product

from howeverled.kinds import is_quotient
from howeverled.quotients import less, minus, over, plus, quotient_of, times

SOME = [(top, bottom) for top in range(-4, 5) for bottom in range(1, 5) if is_quotient((top, bottom))]
SOME += [(10 ** 30, 7), (-7, 10 ** 30)]


def pair(fraction):
    return (fraction.numerator, fraction.denominator)


class Quotients(unittest.TestCase):
    def test_quotient_of(self):
        for top, bottom in product(range(-6, 7), range(-6, 7)):
            if bottom != 0:
                told = quotient_of(top, bottom)
                self.assertEqual(told, pair(Fraction(top, bottom)))
                self.assertIs(is_quotient(told), True)
        self.assertEqual(quotient_of(0, -5), (0, 1))
        self.assertEqual(quotient_of(10 ** 60, -(10 ** 30)), (-(10 ** 30), 1))

    def test_reckoning(self):
        for one, other in product(SOME, SOME):
            here, there = Fraction(*one), Fraction(*other)
            self.assertEqual(plus(one, other), pair(here + there))
            self.assertEqual(minus(one, other), pair(here - there))
            self.assertEqual(times(one, other), pair(here * there))
            self.assertIs(less(one, other), here < there)
            if there != 0:
                self.assertEqual(over(one, other), pair(here / there))

    def test_by_name(self):
        self.assertEqual(quotient_of(bottom=4, top=2), (1, 2))
        self.assertEqual(minus(other=(1, 3), one=(1, 2)), (1, 6))


if __name__ == "__main__":
    unittest.main()
