"""Points 37, 38 and 39: the lines of sketches."""

import random
import unittest
from fractions import Fraction

from solids import worth
from truepart.sketches import solve_sketch

# Lines go along (1, 0), where the offset is y, or along (0, 1), where it is -x, if nothing else is said.
LEFT = ("l", (0, 1), None)
RIGHT = ("r", (0, 1), None)
LOWER = ("b", (1, 0), None)
UPPER = ("t", (1, 0), None)
FOUR = [LEFT, RIGHT, LOWER, UPPER]


def through(line, x, y):
    return (line[0], line[1], (x, y))


def zero():
    return worth(0)


class Through(unittest.TestCase):

    def test_offsets_of_points(self):
        lines = [("a", (1, 0), (worth(5), worth((7, 2)))), ("b", (0, 1), (worth(5), worth(7))),
                 ("c", (2, 3), (worth((1, 2)), worth((1, 3)))), ("d", (-2, 1), (worth(1), worth(1)))]
        self.assertEqual(solve_sketch(lines, []), ("determined", [worth((7, 2)), worth(-5), worth((-5, 6)), worth(-3)]))

    def test_offsets_go_along_with_parameters(self):
        lines = [("a", (2, 3), (worth(1, 1, 0), worth((1, 2), (1, 3), -2)))]
        self.assertEqual(solve_sketch(lines, []), ("determined", [worth(-2, (-7, 3), -4)]))

    def test_no_lines(self):
        self.assertEqual(solve_sketch([], []), ("determined", []))

    def test_free(self):
        self.assertEqual(solve_sketch([LOWER], []), ("free", ["b"]))
        self.assertEqual(solve_sketch([UPPER, through(LEFT, zero(), zero()), LOWER], []), ("free", ["t", "b"]))


class Dimensions(unittest.TestCase):

    def assert_apart(self, pair, direction, start, along, expected):
        lines = [("a", pair, (worth(*start[0]), worth(*start[1]))), ("b", direction, None)]
        found = solve_sketch(lines, [("apart", 0, 1, along, worth(3))])
        self.assertEqual(found[0], "determined")
        self.assertEqual(found[1][1], worth(expected))
        again = solve_sketch([lines[0], ("b", direction, None)], [("apart", 1, 0, along, worth(-3))])
        self.assertEqual(again, found)

    def test_apart(self):
        self.assert_apart((1, 0), (1, 0), ((0,), (5,)), (0, 1), 8)
        self.assert_apart((1, 0), (1, 0), ((0,), (5,)), (7, 2), 11)
        self.assert_apart((1, 0), (-2, 0), ((0,), (5,)), (0, 1), -16)
        self.assert_apart((0, 1), (0, 3), ((4,), (0,)), (1, 0), -21)
        # From (1, 1), 3 times (1, -1) leads to (4, -2), where -4 * y - 6 * x is -16.
        self.assert_apart((2, -3), (-4, 6), ((1,), (1,)), (1, -1), -16)

    def test_apart_goes_along_with_parameters(self):
        lines = [("b", (1, 0), (worth(0, 0, 0), worth(1, 1, 0))), UPPER]
        self.assertEqual(solve_sketch(lines, [("apart", 0, 1, (5, 2), worth(1, 0, (1, 2)))]), (
            "determined", [worth(1, 1, 0), worth(3, 1, 1)]))

    def test_corner_at(self):
        slanted = ("s", (1, 2), None)
        for axis, expected in [("u", worth(5)), ("v", worth(-2))]:
            # s is told by its corner with b, where y is 3: a * y - b * x is y - 2 * x.
            lines = [through(LOWER, zero(), worth(3)), slanted, through(LEFT, worth(4), zero())]
            corner = (0, 1) if axis == "u" else (1, 2)
            found = solve_sketch(lines, [("at", *corner, axis, expected)])
            offset = 3 - 2 * 5 if axis == "u" else -2 - 2 * 4
            self.assertEqual(found, ("determined", [worth(3), worth(offset), worth(-4)]))
            self.assertEqual(solve_sketch(lines, [("at", *reversed(corner), axis, expected)]), found)

    def test_corner_at_without_the_other_line(self):
        self.assertEqual(solve_sketch([LEFT, LOWER], [("at", 0, 1, "u", worth(5, 1))]), ("free", ["b"]))
        self.assertEqual(solve_sketch([LEFT, LOWER], [("at", 0, 1, "u", worth(5, 1)), ("at", 1, 0, "v", worth(2, 0))]), (
            "determined", [worth(-5, -1), worth(2, 0)]))

    def test_between_corners(self):
        lines = [through(LEFT, worth(1), zero()), RIGHT, through(LOWER, zero(), worth(2)), UPPER]
        dimensions = [("between", 0, 2, 1, 3, "u", worth(6)), ("between", 1, 3, 0, 2, "v", worth(4))]
        self.assertEqual(solve_sketch(lines, dimensions), ("determined", [worth(-1), worth(-7), worth(2), worth(-2)]))

    def test_between_corners_of_slanted_lines(self):
        # The lines p and q go through (2, 1) and s through (5, 3): there x is 3 more and y is 2 more.
        lines = [("p", (1, 1), (worth(2), worth(1))), ("q", (1, -2), (worth(2), worth(1))),
                 ("s", (3, 1), None), ("t", (0, 1), None)]
        dimensions = [("between", 0, 1, 2, 3, "u", worth(3)), ("between", 0, 1, 3, 2, "v", worth(2))]
        self.assertEqual(solve_sketch(lines, dimensions), ("determined", [worth(-1), worth(5), worth(4), worth(-5)]))

    def test_corners_with_a_line_in_common(self):
        lines = [through(LEFT, worth(1), zero()), RIGHT, LOWER, ("s", (1, 1), (worth(0), worth(0)))]
        dimensions = [("between", 3, 0, 3, 1, "v", worth(2)), ("at", 1, 2, "v", worth(9))]
        self.assertEqual(solve_sketch(lines, dimensions), ("determined", [worth(-1), worth(-3), worth(9), worth(0)]))


class Free(unittest.TestCase):

    def test_names_in_the_order_of_the_lines(self):
        dimensions = [("apart", 0, 1, (1, 0), worth(4))]
        self.assertEqual(solve_sketch(FOUR, dimensions), ("free", ["l", "r", "b", "t"]))
        lines = [LEFT, RIGHT, UPPER, through(LOWER, zero(), zero())]
        self.assertEqual(solve_sketch(lines, dimensions), ("free", ["l", "r", "t"]))
        self.assertEqual(solve_sketch(lines, dimensions + [("at", 3, 1, "u", worth(2))]), ("free", ["t"]))

    def test_an_offset_that_is_told_through_others(self):
        lines = [LEFT, RIGHT, ("m", (0, 1), None)]
        dimensions = [("apart", 0, 1, (1, 0), worth(4)), ("apart", 1, 2, (1, 0), worth(4))]
        self.assertEqual(solve_sketch(lines, dimensions), ("free", ["l", "r", "m"]))
        lines[2] = through(lines[2], worth(10), zero())
        self.assertEqual(solve_sketch(lines, dimensions), ("determined", [worth(-2), worth(-6), worth(-10)]))


class Over(unittest.TestCase):

    def test_with_told_offsets_alone(self):
        lines = [through(LEFT, worth(1), zero()), through(RIGHT, worth(5), zero())]
        self.assertEqual(solve_sketch(lines, [("apart", 0, 1, (1, 0), worth(4))])[0], "determined")
        self.assertEqual(solve_sketch(lines, [("apart", 0, 1, (1, 0), worth(3))]), ("over", [1]))

    def test_the_first_contradiction_ends_it(self):
        lines = [through(LEFT, worth(1), zero()), RIGHT, through(LOWER, zero(), zero()), UPPER]
        dimensions = [("apart", 2, 3, (0, 1), worth(1)), ("apart", 0, 1, (1, 0), worth(3)), ("at", 1, 3, "u", worth(5)),
                      ("at", 1, 3, "v", worth(7))]
        self.assertEqual(solve_sketch(lines, dimensions), ("over", [2, 3]))

    def test_only_those_from_which_it_comes(self):
        lines = [LEFT, RIGHT, ("m", (0, 1), None), LOWER]
        dimensions = [("apart", 0, 1, (1, 0), worth(4)), ("apart", 1, 2, (1, 0), worth(5)), ("at", 0, 3, "v", worth(1)),
                      ("apart", 0, 2, (1, 0), worth(8))]
        self.assertEqual(solve_sketch(lines, dimensions), ("over", [1, 2, 4]))

    def test_a_dimension_that_follows_is_never_told(self):
        lines = [LEFT, RIGHT, ("m", (0, 1), None)]
        dimensions = [("apart", 0, 1, (1, 0), worth(4)), ("apart", 1, 2, (1, 0), worth(5)), ("apart", 0, 2, (1, 0), worth(9)),
                      ("apart", 2, 0, (1, 0), worth(-7))]
        self.assertEqual(solve_sketch(lines, dimensions), ("over", [1, 2, 4]))
        dimensions = [("apart", 0, 1, (1, 0), worth(4)), ("apart", 1, 0, (-2, 0), worth(2)), ("apart", 0, 1, (1, 0), worth(3))]
        self.assertEqual(solve_sketch(lines, dimensions), ("over", [1, 3]))

    def test_at_some_setting(self):
        lines = [("l", (0, 1), (worth(0, 0), worth(0, 0))), RIGHT]
        dimensions = [("apart", 0, 1, (1, 0), worth(4, 0)), ("apart", 0, 1, (1, 0), worth(4, 1))]
        self.assertEqual(solve_sketch(lines, dimensions), ("over", [1, 2]))
        self.assertEqual(solve_sketch(lines, [dimensions[1], dimensions[1]])[0], "determined")

    def test_a_corner_and_itself(self):
        self.assertEqual(solve_sketch([LEFT, LOWER], [("between", 0, 1, 1, 0, "u", worth(0))]), ("free", ["l", "b"]))
        self.assertEqual(solve_sketch([LEFT, LOWER], [("between", 0, 1, 1, 0, "u", worth(1))]), ("over", [1]))

    def test_over_comes_before_free(self):
        dimensions = [("apart", 0, 1, (1, 0), worth(4)), ("apart", 0, 1, (1, 0), worth(5))]
        self.assertEqual(solve_sketch(FOUR, dimensions), ("over", [1, 2]))


class AgainstPoints(unittest.TestCase):
    """Sketches whose lines are known beforehand: the offsets come out of dimensions that are read off them."""

    def test_dimensions_that_are_read_off(self):
        chance = random.Random(5)
        states = []
        for _ in range(200):
            pairs = [chance.choice([(1, 0), (0, 1), (1, 1), (2, -1), (-2, 1), (0, -3)]) for _ in range(4)]
            offsets = [Fraction(chance.randint(-9, 9), chance.randint(1, 3)) for _ in range(4)]
            lines = [("abcd"[k], pair, None) for k, pair in enumerate(pairs)]
            lines[0] = lines[0][:2] + (self.point_on(pairs[0], offsets[0]),)
            dimensions = [self.dimension(chance, pairs, offsets) for _ in range(chance.randint(2, 8))]
            state, found = solve_sketch(lines, [dimension for dimension in dimensions if dimension])
            states.append(state)
            self.assertNotEqual(state, "over")
            if state == "determined":
                self.assertEqual(found, [worth((c.numerator, c.denominator)) for c in offsets])
        self.assertGreater(states.count("determined"), 30)

    def test_what_is_told_is_as_little_as_can_be(self):
        chance = random.Random(9)
        many = 0
        for _ in range(300):
            pairs = [chance.choice([(1, 0), (0, 1), (1, 1), (-2, 0)]) for _ in range(4)]
            lines = [("abcd"[k], pair, None) for k, pair in enumerate(pairs)]
            lines[0] = lines[0][:2] + ((worth(1), worth(2)),)
            found = [self.dimension(chance, pairs, [Fraction(chance.randint(0, 1)) for _ in range(4)]) for _ in range(8)]
            dimensions = [dimension for dimension in found if dimension]
            state, numbers = solve_sketch(lines, dimensions)
            if state == "over":
                many += len(numbers) > 1
                self.assertEqual(numbers, sorted(set(numbers)))
                told = [dimensions[number - 1] for number in numbers]
                self.assertEqual(solve_sketch(lines, told), ("over", list(range(1, len(told) + 1))))
                for one in told:
                    others = [dimension for dimension in told if dimension is not one]
                    self.assertNotEqual(solve_sketch(lines, others)[0], "over")
                self.assertNotEqual(solve_sketch(lines, dimensions[:numbers[-1] - 1])[0], "over")
        self.assertGreater(many, 100)

    def point_on(self, pair, offset):
        a, b = pair
        x, y = (Fraction(2), (offset + 2 * b) / a) if a else (-offset / b, Fraction(3))
        return (worth((x.numerator, x.denominator)), worth((y.numerator, y.denominator)))

    def corner(self, pairs, offsets, i, j):
        (a, b), (c, d) = pairs[i], pairs[j]
        size = a * d - b * c
        return ((c * offsets[i] - a * offsets[j]) / size, (d * offsets[i] - b * offsets[j]) / size)

    def dimension(self, chance, pairs, offsets):
        i, j, k, m = chance.sample(range(4), 4)
        axis = chance.randint(0, 1)
        if pairs[i][0] * pairs[j][1] == pairs[i][1] * pairs[j][0]:
            along = (1, 3)
            (a, b), (c, d) = pairs[i], pairs[j]
            times = Fraction(c, a) if a else Fraction(d, b)
            found = (offsets[j] - times * offsets[i]) / (3 * c - d)
            return ("apart", i, j, along, worth((found.numerator, found.denominator)))
        first = self.corner(pairs, offsets, i, j)[axis]
        if chance.random() < 0.5:
            return ("at", i, j, "uv"[axis], worth((first.numerator, first.denominator)))
        if pairs[k][0] * pairs[m][1] == pairs[k][1] * pairs[m][0]:
            return None
        found = self.corner(pairs, offsets, k, m)[axis] - first
        return ("between", i, j, k, m, "uv"[axis], worth((found.numerator, found.denominator)))


if __name__ == "__main__":
    unittest.main()
