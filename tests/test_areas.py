"""Points 16 to 19: areas."""

import random
import unittest
from itertools import product

from helpers import FaultCase
from truepart.areas import area_holds, area_text, read_area

LINES = ["a", "b", "c", "left", "longNameOf16Sign"]
A, B, C = ("left", "a"), ("left", "b"), ("right", "c")


def both(first, second):
    return ("both", first, second)


def either(first, second):
    return ("either", first, second)


def read(text):
    return read_area(list(LINES), text)


class Reading(unittest.TestCase):

    def test_each_kind(self):
        for text, found in [
                ("left a", A), ("right c", C), ("!left a", ("not", A)), ("!!left a", ("not", ("not", A))),
                ("left a & left b", both(A, B)), ("left a | left b", either(A, B)), ("(left a)", A), ("((left a))", A),
                ("left left", ("left", "left")), ("right longNameOf16Sign", ("right", "longNameOf16Sign"))]:
            self.assertEqual(read(text), found, text)

    def test_the_first_is_done_first(self):
        self.assertEqual(read("left a & left b & right c"), both(both(A, B), C))
        self.assertEqual(read("left a | left b | right c"), either(either(A, B), C))
        self.assertEqual(read("left a | left b & right c"), either(A, both(B, C)))
        self.assertEqual(read("left a & left b | right c"), either(both(A, B), C))
        self.assertEqual(read("left a & left b | right c & left a"), either(both(A, B), both(C, A)))

    def test_brackets(self):
        self.assertEqual(read("left a & (left b & right c)"), both(A, both(B, C)))
        self.assertEqual(read("left a | (left b | right c)"), either(A, either(B, C)))
        self.assertEqual(read("(left a | left b) & right c"), both(either(A, B), C))
        self.assertEqual(read("!(left a | left b)"), ("not", either(A, B)))
        self.assertEqual(read("!left a & left b"), both(("not", A), B))
        self.assertEqual(read("!(left a & left b)|!right c"), either(("not", both(A, B)), ("not", C)))

    def test_gaps(self):
        self.assertEqual(read("  left\na&( left b # b | left c\n|!right c )\n"), both(A, either(B, ("not", C))))

    def test_twenty_around(self):
        self.assertEqual(read("(" * 20 + "left a" + ")" * 20), A)
        found = A
        for _ in range(20):
            found = ("not", found)
        self.assertEqual(read("!" * 20 + "left a"), found)
        self.assertEqual(read("left b & " + "!" * 20 + "left a | " + "(" * 20 + "left b" + ")" * 20),
                         either(both(B, found), B))
        self.assertEqual(read("!(" * 10 + "left a" + ")" * 10 + "&" + "(!" * 10 + "left b" + ")" * 10)[0], "both")

    def test_long_rows(self):
        found = read("|".join(["left a"] * 250))
        for _ in range(249):
            self.assertEqual((found[0], found[2]), ("either", A))
            found = found[1]
        self.assertEqual(found, A)

    def test_lines_do_not_change(self):
        lines = list(LINES)
        read_area(lines, "left a & right b")
        self.assertEqual(lines, LINES)


class Faults(FaultCase):

    def test_a_token_is_missing(self):
        for line, column, text in [
                (1, 1, ""), (1, 3, "  "), (2, 1, "\n"), (1, 5, "left"), (1, 6, "left "), (1, 2, "!"), (1, 2, "("),
                (1, 8, "(left a"), (1, 8, "left a&"), (1, 9, "left a |"), (2, 1, "left a |\n"), (1, 13, "left a | # c"),
                (2, 4, "left a |\n# c"), (1, 18, "!(left a | left b")]:
            self.assert_fault(line, column, read, text)

    def test_a_token_too_many(self):
        for text, column in [
                ("left a)", 7), ("left a left b", 8), ("left a b", 8), ("left a !left b", 8), ("(left a) (left b)", 10),
                ("left a;", 7), ("left a & left b 3", 17), ("left a \"b\"", 8)]:
            self.assert_fault(1, column, read, text)

    def test_a_token_in_place_of_another(self):
        for text, column in [
                ("a", 1), ("Left a", 1), ("\"left\" a", 1), ("left \"a\"", 6), ("left 1", 6), ("left (a)", 6),
                ("left !a", 6), ("& left a", 1), ("| left a", 1), (")", 1), ("()", 2), ("left a & | left b", 10),
                ("left a & & left b", 10), ("left a || left b", 9), ("!& left a", 2), ("(left a}", 8), ("{left a}", 1),
                ("left a, left b", 7), ("left a / left b", 8), ("near a", 1), ("3", 1), ("(left a; )", 8)]:
            self.assert_fault(1, column, read, text)

    def test_lines_that_are_not_there(self):
        for text, column in [
                ("left d", 6), ("right right", 7), ("left A", 6), ("left a & left ab", 15), ("left low", 6),
                ("left longNameOf16Sig", 6), ("left longNameOf16Signs", 6)]:
            self.assert_fault(1, column, read, text)
        self.assert_fault(1, 6, read_area, [], "left a")
        self.assert_fault(3, 6, read, "left a\n| # left b\nleft e | left f")

    def test_too_deep(self):
        self.assert_fault(1, 21, read, "(" * 21 + "left a" + ")" * 21)
        self.assert_fault(1, 21, read, "!" * 21 + "left a")
        self.assert_fault(1, 21, read, "!" * 20 + "(left a)")
        self.assert_fault(1, 21, read, "(" * 20 + "!left a" + ")" * 20)
        self.assert_fault(1, 21, read, "(" * 2000)
        self.assert_fault(1, 28, read, "(" * 20 + "left a&!left b")
        self.assert_fault(1, 21, read, "!" * 20)
        self.assert_fault(1, 20, read, "!" * 19)

    def test_faults_of_tokens_come_first(self):
        self.assert_fault(1, 8, read, "a left ?")
        self.assert_fault(1, 10, read, "left d | 007")
        self.assert_fault(1, 23, read, "!" * 21 + " \"")

    def test_lengths(self):
        text = "left a" + " " * 1994
        self.assertEqual(len(text), 2000)
        self.assertEqual(read(text), A)
        self.assert_fault(1, 1, read, text + " ")
        self.assert_fault(1, 1, read, "left a |" + " " * 1993)


class Writing(unittest.TestCase):

    def test_each_kind(self):
        for area, text in [
                (A, "left a"), (C, "right c"), (("not", A), "!left a"), (("not", ("not", C)), "!!right c"),
                (both(A, B), "left a & left b"), (either(A, B), "left a | left b"),
                (both(("not", A), ("not", B)), "!left a & !left b"), (either(("not", A), B), "!left a | left b")]:
            self.assertEqual(area_text(area), text)

    def test_brackets_where_they_are_needed(self):
        for area, text in [
                (both(either(A, B), C), "(left a | left b) & right c"),
                (both(A, either(B, C)), "left a & (left b | right c)"),
                (("not", either(A, B)), "!(left a | left b)"),
                (("not", both(A, B)), "!(left a & left b)"),
                (either(A, either(B, C)), "left a | (left b | right c)"),
                (both(A, both(B, C)), "left a & (left b & right c)")]:
            self.assertEqual(area_text(area), text)
            self.assertEqual(read(text), area)

    def test_no_brackets_where_they_are_not(self):
        for area, text in [
                (either(either(A, B), C), "left a | left b | right c"),
                (both(both(A, B), C), "left a & left b & right c"),
                (either(both(A, B), C), "left a & left b | right c"),
                (either(A, both(B, C)), "left a | left b & right c"),
                (both(("not", both(A, B)), C), "!(left a & left b) & right c")]:
            self.assertEqual(area_text(area), text)
            self.assertEqual(read(text), area)

    def test_long_rows(self):
        for sign, kind in ((" | ", "either"), (" & ", "both")):
            area, many = A, 5000
            for _ in range(many - 1):
                area = (kind, area, A)
            self.assertEqual(area_text(area), sign.join(["left a"] * many))
            self.assertIs(area_holds(area, {"a": True}), True)
            self.assertIs(area_holds(area, {"a": False}), False)

    def test_what_is_written_is_read_as_the_same(self):
        chance = random.Random(5)
        for _ in range(2000):
            area = some_area(chance, chance.randint(0, 5))
            self.assertEqual(read(area_text(area)), area)


def some_area(chance, deep):
    """An area of some kind, not deeper than told."""
    kind = chance.choice(["left", "right", "not", "both", "either", "both", "either"]) if deep else "left"
    if kind in ("left", "right"):
        return (kind, chance.choice("abc"))
    if kind == "not":
        return (kind, some_area(chance, deep - 1))
    return (kind, some_area(chance, deep - 1), some_area(chance, deep - 1))


class Holding(unittest.TestCase):

    def test_each_kind(self):
        for left_a, left_b in product((True, False), repeat=2):
            left = {"a": left_a, "b": left_b}
            right_b = ("right", "b")
            self.assertIs(area_holds(A, left), left_a)
            self.assertIs(area_holds(right_b, left), not left_b)
            self.assertIs(area_holds(("not", A), left), not left_a)
            self.assertIs(area_holds(both(A, B), left), left_a and left_b)
            self.assertIs(area_holds(either(A, B), left), left_a or left_b)
            self.assertIs(area_holds(both(A, right_b), left), left_a and not left_b)
            self.assertIs(area_holds(either(("not", A), B), left), (not left_a) or left_b)
            self.assertEqual(left, {"a": left_a, "b": left_b})

    def test_areas_that_are_read(self):
        area = read("!(left a & left b) | right c & (left a | left b & left c)")
        for a, b, c in product((True, False), repeat=3):
            expected = (not (a and b)) or ((not c) and (a or (b and c)))
            self.assertIs(area_holds(area, {"a": a, "b": b, "c": c}), expected)


if __name__ == "__main__":
    unittest.main()
