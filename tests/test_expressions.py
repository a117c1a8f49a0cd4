"""Points 10 to 14: names of parameters, expressions, the texts of values."""

import random
import re
import unittest
from itertools import product

from helpers import FaultCase, fault_of
from truepart.affine import add, constant, parameter, scale
from truepart.expressions import expression_text, is_parameter_name, is_short, read_expression
from truepart.numbers import fraction

NAMES = ["a", "b_2", "Long_name_of_16x"]


def worth(base, *slopes):
    """A value by texts: worth("1/2", "0", "3")."""
    return (ratio(base), tuple(ratio(slope) for slope in slopes))


def ratio(text):
    number, _, divisor = text.partition("/")
    return fraction(int(number), int(divisor or "1"))


class ParameterNames(unittest.TestCase):

    def test_good(self):
        for text in ("a", "Z", "a1", "A_", "a__1", "abcdefghij_12345", "left", "z" * 16):
            self.assertIs(is_parameter_name(text), True, text)

    def test_bad(self):
        for text in ("", "1", "_", "_a", "1a", "a-", "a b", " a", "a ", "a.b", "a\n", "abcdefghij_123456", "z" * 17):
            self.assertIs(is_parameter_name(text), False, text)


class Reading(FaultCase):

    def read(self, text):
        return read_expression(list(NAMES), text)

    def test_numbers(self):
        for text, base in [
                ("0", "0"), ("17", "17"), ("-17", "-17"), ("6/4", "3/2"), ("-6/4", "-3/2"), ("007/014", "1/2"),
                ("999999999999", "999999999999"), ("1/999999999999", "1/999999999999"), ("-0", "0")]:
            self.assertEqual(self.read(text), worth(base, "0", "0", "0"), text)

    def test_no_parameters(self):
        self.assertEqual(read_expression([], "1/2 - 2"), ((-3, 2), ()))

    def test_parameters(self):
        self.assertEqual(self.read("a"), worth("0", "1", "0", "0"))
        self.assertEqual(self.read("-b_2"), worth("0", "0", "-1", "0"))
        self.assertEqual(self.read("Long_name_of_16x"), worth("0", "0", "0", "1"))

    def test_multiples(self):
        self.assertEqual(self.read("3*a"), worth("0", "3", "0", "0"))
        self.assertEqual(self.read("-3/6*b_2"), worth("0", "0", "-1/2", "0"))
        self.assertEqual(self.read("0*a"), worth("0", "0", "0", "0"))

    def test_sums(self):
        self.assertEqual(self.read("1+a-2*b_2-1/2"), worth("1/2", "1", "-2", "0"))
        self.assertEqual(self.read("a+a+a"), worth("0", "3", "0", "0"))
        self.assertEqual(self.read("-a-a"), worth("0", "-2", "0", "0"))
        self.assertEqual(self.read("-1+2"), worth("1", "0", "0", "0"))
        self.assertEqual(self.read("a-a"), worth("0", "0", "0", "0"))

    def test_long_sums(self):
        self.assertEqual(self.read("+".join(["a"] * 700)), worth("0", "700", "0", "0"))
        self.assertEqual(self.read("1" + "-1/3" * 300 + "+2*a" * 300), worth("-99", "600", "0", "0"))

    def test_blanks_between_the_parts(self):
        found = worth("-3", "-1/2", "0", "1")
        for text in ("-1/2*a+Long_name_of_16x-3", "- 1/2 * a + Long_name_of_16x - 3",
                     " -   1/2  *a+ Long_name_of_16x   -3  "):
            self.assertEqual(self.read(text), found, text)

    def test_no_blanks_within_the_parts(self):
        for text, column in [
                ("1 /2", 3), ("1/ 2", 3), ("1 2", 3), ("b _2", 1), ("a a", 3), ("1/2 3", 5), ("Long_name_of_16 x", 1)]:
            self.assert_fault(1, column, self.read, text)

    def test_names_are_read_as_long_as_they_go(self):
        found = read_expression(["a", "ab", "a1", "a_"], "a1+ab-a_")
        self.assertEqual(found, worth("0", "0", "1", "1", "-1"))
        for text, column in [("abc", 1), ("a2", 1), ("a__", 1), ("3*a2", 3), ("a + a2", 5), ("2*3a", 3), ("2*_a", 3)]:
            self.assert_fault(1, column, read_expression, ["a", "ab", "a1", "a_"], text)

    def test_the_end_comes_too_early(self):
        for text, column in [
                ("", 1), ("  ", 3), ("-", 2), ("- ", 3), ("a+", 3), ("a + ", 5), ("3*", 3), ("3 * ", 5), ("3/", 3),
                ("a-b_2-", 7)]:
            self.assert_fault(1, column, self.read, text)

    def test_characters_that_cannot_stand(self):
        for text, column in [
                ("+a", 1), ("--a", 2), ("a+-b_2", 3), ("a*3", 2), ("a*b_2", 2), ("3**a", 3), ("3a", 2), ("3_", 2),
                ("3*a*2", 4), ("(a)", 1), ("a)", 2), ("3.5", 2), ("/2", 1), ("a/2", 2), ("1/2/3", 4), ("a b_2", 3),
                ("a\n", 2), ("\na", 1), ("3\n+a", 2), ("a++a", 3), ("*a", 1), ("3*-a", 3), ("a+*a", 3), ("1/2a", 4)]:
            self.assert_fault(1, column, self.read, text)

    def test_unknown_words(self):
        for text, column in [
                ("x", 1), ("-x", 2), ("a + x1*", 5), ("2*x", 3), ("A", 1), ("b_", 1), ("_a", 1), ("a-_a", 3),
                ("Long_name_of_16xy", 1)]:
            self.assert_fault(1, column, self.read, text)
        self.assert_fault(1, 1, read_expression, [], "a")

    def test_too_many_digits(self):
        for text, column in [
                ("1234567890123", 1), ("-0000000000001", 2), ("a + 1234567890123*a", 5), ("1234567890123x", 1),
                ("1234567890123/0", 1), ("9" * 5000, 1)]:
            self.assert_fault(1, column, self.read, text)

    def test_strokes(self):
        for text, column in [
                ("1/0", 3), ("1/000*a", 3), ("1/a", 3), ("1/-2", 3), ("1//2", 3), ("1/1234567890123", 3), ("-1/00", 4),
                ("a-12/0", 6), ("1/0x", 3), ("1/0000000000000", 3)]:
            self.assert_fault(1, column, self.read, text)

    def test_the_first_fault_counts(self):
        for text, column in [("x + 1/0", 1), ("1/0 + x", 3), ("a a 1/0", 3), ("3*x*", 3), ("a + 1/0 + 1234567890123", 7)]:
            self.assert_fault(1, column, self.read, text)

    def test_numbers_that_are_not_short(self):
        for text in (
                "999999999999 + 1", "-999999999999 - 1", "500000000000*a + 500000000000*a", "1/999999999999 + 1/2",
                "1/1000003*a + 1/1000033*b_2", "999999999999/2 + 1/3", "99999999999*a + 1/11"):
            self.assert_fault(1, 1, self.read, text)

    def test_a_fault_of_the_text_comes_in_front_of_numbers_that_are_not_short(self):
        self.assert_fault(1, 18, self.read, "999999999999 + 1 ?")
        self.assert_fault(1, 20, self.read, "999999999999 + 1 + ")

    def test_sums_on_the_way_may_be_longer(self):
        self.assertEqual(self.read("999999999999 + 1 - 1"), worth("999999999999", "0", "0", "0"))
        self.assertEqual(self.read("1/999999999999 + 1/999999999998 - 1/999999999999 - 1/999999999998 + a"),
                         worth("0", "1", "0", "0"))

    def test_names_do_not_change(self):
        names = list(NAMES)
        read_expression(names, "a + 2*b_2")
        self.assertEqual(names, NAMES)


class Short(unittest.TestCase):

    def test_bounds(self):
        most = 10 ** 12 - 1
        self.assertIs(is_short(((most, 1), ())), True)
        self.assertIs(is_short(((-most, 1), ())), True)
        self.assertIs(is_short(((most + 1, 1), ())), False)
        self.assertIs(is_short(((-most - 1, 1), ())), False)
        self.assertIs(is_short(((1, most), ())), True)
        self.assertIs(is_short(((1, most + 1), ())), False)
        self.assertIs(is_short(((0, 1), ((most, 1),))), True)
        self.assertIs(is_short(((0, 1), ((0, 1), (-most - 1, 1)))), False)

    def test_the_least_common_denominator_counts(self):
        self.assertIs(is_short(((1, 10 ** 6), ((1, 999999),))), True)
        self.assertIs(is_short(((1, 10 ** 6), ((1, 1000001),))), False)
        self.assertIs(is_short(((1, 10 ** 6), ((1, 2 * 10 ** 6), (1, 500000)))), True)
        self.assertIs(is_short(((1, 3), ((333333333333, 1),))), True)
        self.assertIs(is_short(((1, 3), ((333333333334, 1),))), False)
        self.assertIs(is_short(((0, 1), ())), True)


class Writing(unittest.TestCase):

    def text(self, *parts):
        return expression_text(list(NAMES), worth(*parts))

    def test_bases(self):
        self.assertEqual(self.text("0", "0", "0", "0"), "0")
        self.assertEqual(self.text("17", "0", "0", "0"), "17")
        self.assertEqual(self.text("-3/4", "0", "0", "0"), "-3/4")
        self.assertEqual(expression_text([], ((-3, 4), ())), "-3/4")

    def test_slopes(self):
        self.assertEqual(self.text("0", "1", "0", "0"), "a")
        self.assertEqual(self.text("0", "-1", "0", "0"), "-a")
        self.assertEqual(self.text("0", "0", "2", "0"), "2*b_2")
        self.assertEqual(self.text("0", "0", "-2/3", "0"), "-2/3*b_2")

    def test_sums(self):
        self.assertEqual(self.text("3", "1", "-1", "-2"), "a - b_2 - 2*Long_name_of_16x + 3")
        self.assertEqual(self.text("-1/3", "-1/2", "1", "0"), "-1/2*a + b_2 - 1/3")
        self.assertEqual(self.text("1", "0", "0", "-1"), "-Long_name_of_16x + 1")

    def test_what_is_written_is_read_as_the_same(self):
        ratios = ["0", "1", "-1", "7", "-7/3", "1/2"]
        for parts in product(ratios, repeat=4):
            found = worth(*parts)
            self.assertEqual(read_expression(NAMES, expression_text(NAMES, found)), found)

    def test_names_do_not_change(self):
        names = list(NAMES)
        expression_text(names, worth("1", "2", "3", "4"))
        self.assertEqual(names, NAMES)


PART = re.compile(r"(\d+(?:/\d*)?)|(\w+)|([-+*])|( )")


def told_by_parts(text):
    """The value of an expression over the parameter a, or the column of its fault, by going through its parts."""
    found, at, turned, state = constant((0, 1), 1), 0, False, "first"
    pending = None
    while at < len(text):
        part = PART.match(text, at)
        if not part:
            return at + 1
        number, word, sign, _ = part.groups()
        column = at + 1
        at = part.end()
        if number and state in ("first", "term"):
            over, stroke, under = number.partition("/")
            if stroke and not under.strip("0"):
                return column + len(over) + 1
            pending, state = fraction(int(over), int(under or "1")), "number"
        elif word and state in ("first", "term", "times"):
            if word != "a":
                return column
            one = parameter(0, 1) if state != "times" else scale(pending, parameter(0, 1))
            found, pending, state = add(found, scale((-1 if turned else 1, 1), one)), None, "word"
        elif number and state == "times":
            return column
        elif sign == "-" and state == "first":
            turned, state = True, "term"
        elif sign == "*" and state == "number":
            state = "times"
        elif sign in ("+", "-") and state in ("number", "word"):
            if pending:
                found = add(found, constant(fraction(-pending[0] if turned else pending[0], pending[1]), 1))
            turned, pending, state = sign == "-", None, "term"
        elif part.group(0) != " ":
            return column
    if state in ("first", "term", "times"):
        return len(text) + 1
    if pending:
        found = add(found, constant(fraction(-pending[0] if turned else pending[0], pending[1]), 1))
    return found


class AllSmallTexts(unittest.TestCase):

    def test_all(self):
        texts = ["".join(row) for many in range(5) for row in product("a10/*-+ _", repeat=many)]
        chance = random.Random(7)
        texts += ["".join(chance.choices("a10/*-+ ", k=9)) for _ in range(5000)]
        for text in texts:
            expected = told_by_parts(text)
            if isinstance(expected, int):
                self.assertEqual(fault_of(read_expression, ["a"], text), (1, expected), repr(text))
            else:
                self.assertEqual(read_expression(["a"], text), expected, repr(text))


if __name__ == "__main__":
    unittest.main()
