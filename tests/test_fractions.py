"""What a fraction is [2], and how the program reckons with them."""

import unittest
from fractions import Fraction
from math import gcd, lcm

from homeround.fractions import (
    common_bottom, common_measure, is_fraction, is_less, lowest, minus, plus, times, tops_over, total,
)
from tests.samples import HUGE, STRANGE, numbers

SMALL = sorted({Fraction(top, bottom) for top in range(-7, 8) for bottom in range(1, 7)})
GREAT = [
    Fraction(HUGE, 1), Fraction(-HUGE, 7), Fraction(1, HUGE), Fraction(HUGE + 1, HUGE), Fraction(-HUGE, HUGE - 1),
    Fraction(10 ** 20, 3 ** 40), Fraction(-5, 10 ** 20 + 39), Fraction(HUGE - 1, 2 ** 100),
]
SOME = SMALL + GREAT


def told(value):
    """A fraction in the form in which it is told."""
    return (value.numerator, value.denominator)


class Lowest(unittest.TestCase):
    def check(self, top, bottom):
        found = lowest(top, bottom)
        self.assertIs(type(found), tuple)
        self.assertEqual(found, told(Fraction(top, bottom)))
        self.assertTrue(all(type(part) is int for part in found))
        self.assertIs(is_fraction(found), True)

    def test_small_numbers(self):
        for top in range(-30, 31):
            for bottom in list(range(-12, 0)) + list(range(1, 13)):
                self.check(top, bottom)

    def test_0_is_0_over_1(self):
        for bottom in (1, 2, 7, -1, -9, HUGE, -HUGE):
            self.assertEqual(lowest(0, bottom), (0, 1))

    def test_great_numbers(self):
        for top in (HUGE, -HUGE, HUGE + 1, 6 * HUGE, 1):
            for bottom in (1, 2, 3, -4, HUGE, -HUGE, 10 * HUGE, HUGE - 1, 2 ** 90):
                self.check(top, bottom)

    def test_known_ones(self):
        self.assertEqual(lowest(6, 4), (3, 2))
        self.assertEqual(lowest(-6, 4), (-3, 2))
        self.assertEqual(lowest(6, -4), (-3, 2))
        self.assertEqual(lowest(-6, -4), (3, 2))
        self.assertEqual(lowest(8, 4), (2, 1))
        self.assertEqual(lowest(5, 1), (5, 1))

    def test_the_measure(self):
        for one in (0, 1, 6, -6, 12, 35, HUGE, -HUGE):
            for other in (0, 1, 4, -4, 9, 10, HUGE, 2 ** 80):
                self.assertEqual(common_measure(one, other), gcd(one, other))


class IsFraction(unittest.TestCase):
    def test_those_that_are(self):
        for value in SOME:
            self.assertIs(is_fraction(told(value)), True)

    def test_not_in_lowest_terms(self):
        for thing in ((2, 2), (0, 2), (2, 4), (-2, 4), (6, 3), (0, HUGE), (HUGE, HUGE), (10, 5), (-3, 3)):
            self.assertIs(is_fraction(thing), False, thing)

    def test_bottom_below_1(self):
        for thing in ((1, 0), (0, 0), (1, -1), (0, -1), (-1, -2), (3, -2), (HUGE, -1)):
            self.assertIs(is_fraction(thing), False, thing)

    def test_other_things(self):
        for thing in STRANGE + (
            (1,), (1, 2, 3), [1, 2], (True, 1), (1, True), (0, True), (False, 1), ("1", 2), (1, "2"), "12", (None, 1),
            (1, None), ((1, 2), 1), (1, (2,)), ((1, 2),), (1, [2]), {},
        ):
            self.assertIs(is_fraction(thing), False, thing)

    def test_against_python(self):
        for top in range(-12, 13):
            for bottom in range(-12, 13):
                self.assertIs(is_fraction((top, bottom)), bottom >= 1 and gcd(top, bottom) == 1)


class Reckoning(unittest.TestCase):
    def test_sums_differences_products_comparisons(self):
        for one in SOME:
            for other in SOME[::3] + GREAT:
                pair = told(one), told(other)
                self.assertEqual(plus(*pair), told(one + other))
                self.assertEqual(minus(*pair), told(one - other))
                self.assertEqual(times(*pair), told(one * other))
                self.assertIs(is_less(*pair), one < other)

    def test_none_is_less_than_itself(self):
        for value in SOME:
            self.assertIs(is_less(told(value), told(value)), False)
            self.assertEqual(minus(told(value), told(value)), (0, 1))

    def test_total(self):
        self.assertEqual(total([]), (0, 1))
        for value in SOME:
            self.assertEqual(total([told(value)]), told(value))
        for seed in range(60):
            source = numbers(seed)
            some = [SOME[next(source) % len(SOME)] for count in range(seed % 9)]
            self.assertEqual(total([told(value) for value in some]), told(sum(some, Fraction(0))))

    def test_common_bottom_and_tops(self):
        self.assertEqual(common_bottom([]), 1)
        for seed in range(60):
            source = numbers(seed)
            some = [SOME[next(source) % len(SOME)] for count in range(1 + seed % 6)]
            bottom = common_bottom([told(value) for value in some])
            self.assertEqual(bottom, lcm(*[value.denominator for value in some]))
            tops = tops_over([told(value) for value in some], bottom)
            self.assertEqual([Fraction(top, bottom) for top in tops], some)

    def test_lists_handed_in_stay(self):
        some = [(1, 2), (1, 3), (-5, 6)]
        total(some)
        common_bottom(some)
        tops_over(some, 6)
        self.assertEqual(some, [(1, 2), (1, 3), (-5, 6)])


if __name__ == "__main__":
    unittest.main()
