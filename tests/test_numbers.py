"""Point 1: numbers."""

import unittest
from fractions import Fraction
from math import gcd

from oddkeep.numbers import (
    compare, divided, is_number, is_short, minus, number, plus, times, total,
)

LARGE = 10 ** 60 + 7
VALUES = [Fraction(n, d) for n in range(-7, 8) for d in range(1, 7)]
VALUES += [Fraction(LARGE), Fraction(-LARGE, 3), Fraction(1, LARGE), Fraction(-999, 998)]

NEVER_NUMBERS = [
    (True, 1), (False, 1), (1, True), (0, True), (True, True), (0, False),
    (), (1,), (1, 2, 3), (0, 1, 0),
    [1, 2], [0, 1], "1/2", "12", b"12", "", None, 0, 1, 1.5, True, False, {}, {1: 2}, {1, 2},
    (1, 2.0), (1.0, 2), ("1", 2), (1, "2"), (None, 1), (1, None), ((1, 2), 1), (1, [2]),
    (Fraction(1), 2), Fraction(1, 2), object(), range(2), int,
    (1, 0), (0, 0), (5, 0), (0, 2), (0, -1), (1, -2), (-1, -2), (2, 4), (-2, 4), (3, 3), (6, 3),
    (LARGE * 2, 4), (LARGE, LARGE), (0, LARGE),
]


def told(value):
    return (value.numerator, value.denominator)


class WhatIsANumber(unittest.TestCase):
    def test_numbers(self):
        for value in [(0, 1), (1, 1), (-1, 1), (1, 2), (-1, 2), (7, 3), (-9, 10), (2, 1),
                      (LARGE, 2), (-LARGE, LARGE + 1), (1, LARGE)]:
            with self.subTest(value=value):
                self.assertIs(is_number(value), True)

    def test_all_pairs_of_small_whole_numbers(self):
        for n in range(-12, 13):
            for d in range(-12, 13):
                with self.subTest(n=n, d=d):
                    right = d >= 1 and gcd(n, d) == 1
                    self.assertIs(is_number((n, d)), right)
                    self.assertIs(is_short((n, d)), right)

    def test_what_is_no_number(self):
        for value in NEVER_NUMBERS:
            with self.subTest(value=value):
                self.assertIs(is_number(value), False)
                self.assertIs(is_short(value), False)

    def test_short_numbers(self):
        for value in [(0, 1), (999, 1), (-999, 1), (1, 999), (-1, 999), (999, 998), (-998, 999)]:
            with self.subTest(value=value):
                self.assertIs(is_short(value), True)

    def test_numbers_that_are_not_short(self):
        for value in [(1000, 1), (-1000, 1), (1, 1000), (-1, 1000), (1000, 999), (-1000, 999),
                      (999, 1000), (-999, 1000), (1001, 1000), (LARGE, 1), (-LARGE, 1), (1, LARGE)]:
            with self.subTest(value=value):
                self.assertIs(is_number(value), True)
                self.assertIs(is_short(value), False)


class MakingNumbers(unittest.TestCase):
    def test_lowest_terms(self):
        self.assertEqual(number(2, 4), (1, 2))
        self.assertEqual(number(6, 3), (2, 1))
        self.assertEqual(number(5, 7), (5, 7))

    def test_signs(self):
        self.assertEqual(number(-2, 4), (-1, 2))
        self.assertEqual(number(2, -4), (-1, 2))
        self.assertEqual(number(-2, -4), (1, 2))

    def test_zero(self):
        for d in (1, 2, 999, -1, -5, LARGE, -LARGE):
            with self.subTest(d=d):
                self.assertEqual(number(0, d), (0, 1))

    def test_large(self):
        self.assertEqual(number(6 * LARGE, 4 * LARGE), (3, 2))
        self.assertEqual(number(LARGE, -5 * LARGE), (-1, 5))
        self.assertEqual(number(LARGE, LARGE + 1), (LARGE, LARGE + 1))

    def test_all_quotients_of_small_whole_numbers(self):
        for n in range(-15, 16):
            for d in range(-15, 16):
                if d != 0:
                    with self.subTest(n=n, d=d):
                        self.assertEqual(number(n, d), told(Fraction(n, d)))


class Reckoning(unittest.TestCase):
    def test_examples(self):
        self.assertEqual(plus((1, 2), (1, 3)), (5, 6))
        self.assertEqual(plus((1, 2), (1, 2)), (1, 1))
        self.assertEqual(plus((1, 2), (-1, 2)), (0, 1))
        self.assertEqual(minus((1, 2), (1, 3)), (1, 6))
        self.assertEqual(minus((1, 3), (1, 2)), (-1, 6))
        self.assertEqual(minus((7, 9), (7, 9)), (0, 1))
        self.assertEqual(times((2, 3), (3, 4)), (1, 2))
        self.assertEqual(times((-2, 3), (0, 1)), (0, 1))
        self.assertEqual(divided((1, 2), (3, 4)), (2, 3))
        self.assertEqual(divided((1, 2), (-3, 4)), (-2, 3))
        self.assertEqual(divided((-1, 2), (-1, 4)), (2, 1))
        self.assertEqual(divided((0, 1), (-5, 1)), (0, 1))

    def test_all_pairs(self):
        for a in VALUES:
            for b in VALUES:
                with self.subTest(a=a, b=b):
                    self.assertEqual(plus(told(a), told(b)), told(a + b))
                    self.assertEqual(minus(told(a), told(b)), told(a - b))
                    self.assertEqual(times(told(a), told(b)), told(a * b))
                    if b != 0:
                        self.assertEqual(divided(told(a), told(b)), told(a / b))

    def test_results_are_tuples_of_whole_numbers(self):
        for result in (number(4, 2), plus((1, 2), (1, 2)), minus((1, 2), (1, 2)),
                       times((1, 2), (2, 1)), divided((1, 2), (1, 2)), total([]), total([(1, 2)])):
            with self.subTest(result=result):
                self.assertIs(is_number(result), True)


class Order(unittest.TestCase):
    def test_examples(self):
        self.assertEqual(compare((1, 3), (1, 2)), -1)
        self.assertEqual(compare((1, 2), (1, 2)), 0)
        self.assertEqual(compare((1, 2), (1, 3)), 1)
        self.assertEqual(compare((-1, 2), (-1, 3)), -1)
        self.assertEqual(compare((-1, 2), (0, 1)), -1)
        self.assertEqual(compare((LARGE, LARGE + 1), (LARGE - 1, LARGE)), 1)
        self.assertEqual(compare((LARGE - 1, LARGE), (LARGE, LARGE + 1)), -1)

    def test_all_pairs(self):
        for a in VALUES:
            for b in VALUES:
                with self.subTest(a=a, b=b):
                    result = compare(told(a), told(b))
                    self.assertIs(isinstance(result, bool), False)
                    self.assertEqual(result, (a > b) - (a < b))


class Totals(unittest.TestCase):
    def test_the_empty_list(self):
        self.assertEqual(total([]), (0, 1))

    def test_one_number(self):
        self.assertEqual(total([(-7, 3)]), (-7, 3))

    def test_several_numbers(self):
        self.assertEqual(total([(1, 2), (1, 3), (1, 6)]), (1, 1))
        self.assertEqual(total([(1, 2), (-1, 2)]), (0, 1))
        self.assertEqual(total([told(value) for value in VALUES]), told(sum(VALUES)))

    def test_the_list_stays_as_it_was(self):
        numbers = [(1, 2), (1, 3)]
        total(numbers)
        self.assertEqual(numbers, [(1, 2), (1, 3)])


if __name__ == "__main__":
    unittest.main()
