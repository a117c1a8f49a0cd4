"""Points 3, 7 and 8: fractions and their texts."""

import unittest
from fractions import Fraction
from itertools import product
from math import gcd

from helpers import FaultCase
from truepart.errors import Nought, PartError
from truepart.numbers import (
    ONE, ZERO, common, fraction, less, middle, minus, negative, over, plus, read_fraction, sign, times, told, total)

BIG = 10 ** 30 + 57
PAIRS = [(n, d) for n in (-7, -6, -1, 0, 1, 4, 6, 9, BIG, -BIG) for d in (1, 2, 3, 6, 35, BIG)]
SAMPLES = [fraction(n, d) for n, d in PAIRS]


def pair(found):
    return (found.numerator, found.denominator)


class Fractions(unittest.TestCase):

    def test_lowest_terms_and_divisor_above_nought(self):
        self.assertEqual(fraction(6, 4), (3, 2))
        self.assertEqual(fraction(-6, 4), (-3, 2))
        self.assertEqual(fraction(6, -4), (-3, 2))
        self.assertEqual(fraction(-6, -4), (3, 2))
        self.assertEqual(fraction(0, -5), (0, 1))
        self.assertEqual(fraction(0, 5), (0, 1))
        self.assertEqual(fraction(7), (7, 1))
        self.assertEqual(fraction(-7, 1), (-7, 1))
        self.assertEqual(fraction(12 * BIG, -18 * BIG), (-2, 3))

    def test_all_are_as_pythons_own(self):
        for number, divisor in PAIRS:
            for turned in (divisor, -divisor):
                found = fraction(number, turned)
                self.assertEqual(found, pair(Fraction(number, turned)))
                self.assertGreater(found[1], 0)
                self.assertEqual(gcd(*found), 1)

    def test_divisor_nought(self):
        for number in (0, 1, -3):
            with self.assertRaises(Nought) as caught:
                fraction(number, 0)
            self.assertIsInstance(caught.exception, PartError)
            self.assertIsInstance(caught.exception, ValueError)

    def test_constants(self):
        self.assertEqual((ZERO, ONE), ((0, 1), (1, 1)))

    def test_reckoning_is_as_pythons_own(self):
        for a, b in product(SAMPLES, SAMPLES):
            first, second = Fraction(*a), Fraction(*b)
            self.assertEqual(plus(a, b), pair(first + second))
            self.assertEqual(minus(a, b), pair(first - second))
            self.assertEqual(times(a, b), pair(first * second))
            self.assertEqual(middle(a, b), pair((first + second) / 2))
            self.assertIs(less(a, b), first < second)
            if second != 0:
                self.assertEqual(over(a, b), pair(first / second))

    def test_quotient_by_nought(self):
        for a in (ZERO, ONE, (-2, 3)):
            with self.assertRaises(Nought):
                over(a, ZERO)

    def test_quotient_of_nought(self):
        self.assertEqual(over(ZERO, (-2, 3)), (0, 1))

    def test_negative_and_sign(self):
        self.assertEqual([negative(a) for a in ((-2, 3), ZERO, (2, 3))], [(2, 3), (0, 1), (-2, 3)])
        self.assertEqual([sign(a) for a in ((-2, 3), ZERO, (2, 3))], [-1, 0, 1])

    def test_order(self):
        self.assertTrue(less((1, 3), (1, 2)))
        self.assertFalse(less((1, 2), (1, 3)))
        self.assertFalse(less((1, 2), (1, 2)))
        self.assertTrue(less((-1, 2), (-1, 3)))

    def test_total(self):
        row = [(1, 2), (1, 3), (-5, 6), (7, 1)]
        self.assertEqual(total(row), (7, 1))
        self.assertEqual(row, [(1, 2), (1, 3), (-5, 6), (7, 1)])
        self.assertEqual(total([]), (0, 1))
        self.assertEqual(total([(-3, 4)]), (-3, 4))

    def test_common(self):
        self.assertEqual(common(12, 18), 6)
        self.assertEqual(common(-12, 18), 6)
        self.assertEqual(common(-12, -18), 6)
        self.assertEqual(common(0, -5), 5)
        self.assertEqual(common(7, 0), 7)
        self.assertEqual(common(0, 0), 0)
        self.assertEqual(common(7, 9), 1)


class Texts(FaultCase):

    def test_told(self):
        self.assertEqual(told((0, 1)), "0")
        self.assertEqual(told((17, 1)), "17")
        self.assertEqual(told((-17, 1)), "-17")
        self.assertEqual(told((3, 4)), "3/4")
        self.assertEqual(told((-3, 4)), "-3/4")

    def test_told_of_big_numbers(self):
        self.assertEqual(told((-BIG, BIG + 1)), f"-{BIG}/{BIG + 1}")
        self.assertEqual(told((10 ** 64, 10 ** 64 - 1)), "1" + "0" * 64 + "/" + "9" * 64)
        self.assertEqual(told((10 ** 6000 + 1, 1)), "1" + "0" * 5999 + "1")

    def test_read(self):
        for text, found in [
                ("0", (0, 1)), ("-0", (0, 1)), ("7", (7, 1)), ("-7", (-7, 1)), ("007", (7, 1)), ("6/4", (3, 2)),
                ("-6/4", (-3, 2)), ("0/5", (0, 1)), ("06/004", (3, 2)), ("8/4", (2, 1)),
                ("999999999999", (999999999999, 1)), ("000000000001", (1, 1)),
                ("-999999999999/999999999998", (-999999999999, 999999999998)),
                ("1/000000000002", (1, 2)), ("0/999999999999", (0, 1))]:
            self.assertEqual(read_fraction(text), found, text)

    def test_there_and_back(self):
        for number in range(-9, 10):
            for divisor in range(1, 10):
                a = fraction(number, divisor)
                self.assertEqual(read_fraction(told(a)), a)

    def test_something_is_missing_at_the_end(self):
        for text, column in [("", 1), ("-", 2), ("3/", 3), ("-3/", 4), ("999999999999/", 14)]:
            self.assert_fault(1, column, read_fraction, text)

    def test_strange_characters(self):
        for text, column in [
                (" 3", 1), ("3 ", 2), ("+3", 1), ("--3", 2), ("- 3", 2), ("x", 1), ("-x", 2), ("3x", 2), ("-3x", 3),
                ("3.5", 2), ("3 /4", 2), ("3/ 4", 3), ("3/-4", 3), ("3/x", 3), ("3/4x", 4), ("3/4/5", 4), ("3/4 ", 4),
                ("/4", 1), ("-/4", 2), ("3//4", 3), ("3-", 2), ("3/4-", 4), ("3\n", 2), ("\n3", 1), ("3/4\n", 4),
                ("3_0", 2), ("12345a", 6)]:
            self.assert_fault(1, column, read_fraction, text)

    def test_too_many_digits(self):
        for text, column in [
                ("1234567890123", 1), ("-1234567890123", 2), ("0000000000001", 1), ("1/1234567890123", 3),
                ("-10/0000000000001", 5), ("1234567890123/0", 1), ("1234567890123x", 1), ("1/1234567890123x", 3),
                ("1/0000000000000", 3), ("1" * 5000, 1), ("1/" + "1" * 5000, 3)]:
            self.assert_fault(1, column, read_fraction, text)

    def test_divisor_of_noughts(self):
        for text, column in [("1/0", 3), ("-1/000", 4), ("10/000000000000", 4), ("1/0x", 3), ("1/00/1", 3), ("0/0", 3)]:
            self.assert_fault(1, column, read_fraction, text)


if __name__ == "__main__":
    unittest.main()
