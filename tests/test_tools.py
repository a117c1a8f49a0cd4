"""Points 36, 37 and 40 to 43: the tools of sketches, halves and copies."""

import unittest
from fractions import Fraction
from itertools import product

from solids import at, block, half, is_in, sketch, worth
from truepart.areas import area_holds
from truepart.features import read_feature
from truepart.planes import along, canonical
from truepart.tools import half_tool, mirrored_tool, shifted_tool, sketch_tool, spread

SETTING = [(3, 1), (1, 2)]

SLANTED = """cut at ("1", "w", "-2") u {u} v {v} w {w} {{
  line a (1, 0) through "0" "h";
  line b (0, 1) through "w" "0";
  line c (-1, -1) through "3" "2";
  line d (2, -3) through "-1" "-1";
}} area {area}; from "-h" to "w + 1";"""

AREAS = ["left a", "right b", "left a & right b", "!(left a | left b) & left c", "left a & left b & left c & left d",
         "left a | right b | left c | right d", "left d & (left a | left b & !right c)"]

FRAMES = [((1, 0, 0), (0, 1, 0), (0, 0, 1)), ((0, 1, 0), (1, 0, 0), (0, 0, 1)), ((1, 2, 0), (-1, 1, 3), (2, 0, 1)),
          ((0, 0, -2), (0, 3, 1), (1, 1, 1)), ((-1, 0, 0), (0, 1, 1), (0, 2, -1))]


def size_of(u, v, w):
    return (u[0] * (v[1] * w[2] - v[2] * w[1]) + u[1] * (v[2] * w[0] - v[0] * w[2])
            + u[2] * (v[0] * w[1] - v[1] * w[0]))


def point_of(parts):
    return tuple((Fraction(part).numerator, Fraction(part).denominator) for part in parts)


def made(number, feature, base, ends):
    state, tool = sketch_tool(number, feature, base, ends)
    assert state == "made", (state, tool)
    return tool


class Sides(unittest.TestCase):

    def test_a_block(self):
        number, (op, sides, test) = block(3, "add", (2, 8), (3, 7), (1, "w"), ["w"])
        self.assertEqual(op, "add")
        self.assertEqual(list(sides), [
            ((3, (), "a"), (0, 1, 0), worth(3, 0), True), ((3, (), "b"), (1, 0, 0), worth(8, 0), False),
            ((3, (), "c"), (0, 1, 0), worth(7, 0), False), ((3, (), "d"), (1, 0, 0), worth(2, 0), True),
            ((3, (), "low"), (0, 0, 1), worth(1, 0), True), ((3, (), "high"), (0, 0, 1), worth(0, 1), False)])
        area = ("both", ("both", ("both", ("side", 0), ("side", 1)), ("side", 2)), ("side", 3))
        self.assertEqual(test, ("both", ("both", area, ("side", 4)), ("side", 5)))

    def test_the_test_of_an_area(self):
        text = SLANTED.format(u="(1, 0, 0)", v="(0, 1, 0)", w="(0, 0, 1)", area="!(right a | left b) & left c & left d | right b")
        feature = read_feature(["w", "h"], text)
        tool = made(1, feature, feature["spot"][1], [feature["from"][1], feature["to"][1]])
        first = ("not", ("either", ("not", ("side", 0)), ("side", 1)))
        area = ("either", ("both", ("both", first, ("side", 2)), ("side", 3)), ("not", ("side", 1)))
        self.assertEqual(tool[2], ("both", ("both", area, ("side", 4)), ("side", 5)))
        self.assertEqual([side[0] for side in tool[1]], [(1, (), name) for name in ("a", "b", "c", "d", "low", "high")])
        self.assertEqual(tool[0], "cut")

    def test_a_long_area(self):
        area = " | ".join(["left a"] * 150)
        text = SLANTED.format(u="(1, 0, 0)", v="(0, 1, 0)", w="(0, 0, 1)", area=area)
        feature = read_feature(["w", "h"], text)
        test = made(1, feature, feature["spot"][1], [feature["from"][1], feature["to"][1]])[2][1][1]
        for _ in range(149):
            self.assertEqual((test[0], test[2]), ("either", ("side", 0)))
            test = test[1]
        self.assertEqual(test, ("side", 0))

    def test_frames_of_both_signs(self):
        signs = set()
        for u, v, w in FRAMES:
            size = size_of(u, v, w)
            signs.add(size > 0)
            text = SLANTED.format(u=u, v=v, w=w, area="left a")
            feature = read_feature(["w", "h"], text)
            base, ends = feature["spot"][1], [feature["from"][1], feature["to"][1]]
            for area in AREAS:
                feature["area"] = read_feature(["w", "h"], SLANTED.format(u=u, v=v, w=w, area=area))["area"]
                tool = made(1, feature, base, ends)
                for side in tool[1]:
                    self.assertEqual(side[1], canonical(side[1]))
                for x, y, z in product((-7, Fraction(1, 3), 5), (-5, Fraction(-1, 7), Fraction(19, 5)), (-3, Fraction(1, 5), 6)):
                    self.assert_place(tool, feature["area"], (u, v, w), (x, y, z))
        self.assertEqual(signs, {True, False})

    def assert_place(self, tool, area, frame, place):
        """Compares a tool with what the document says of a point of the frame, where w is 3 and h is 1/2."""
        u, v, w = frame
        x, y, z = place
        point = point_of([part + x * a + y * b + z * c for part, a, b, c in zip((1, 3, -2), u, v, w)])
        left = {"a": y > Fraction(1, 2), "b": -x > -3, "c": -y + x > 1, "d": 2 * y + 3 * x > -5}
        expected = area_holds(area, left) and Fraction(-1, 2) < z < 4
        self.assertEqual(is_in(tool, point, SETTING), expected, (frame, place))

    def test_the_number_and_the_kind(self):
        text = SLANTED.format(u="(1, 0, 0)", v="(0, 1, 0)", w="(0, 0, 1)", area="left a").replace("cut", "keep")
        feature = read_feature(["w", "h"], text)
        tool = made(17, feature, feature["spot"][1], [feature["from"][1], feature["to"][1]])
        self.assertEqual(tool[0], "keep")
        self.assertEqual({side[0][0] for side in tool[1]}, {17})

    def test_what_there_is_to_say_of_the_lines(self):
        start = 'add at ("0", "0", "0") u (1, 0, 0) v (0, 1, 0) w (0, 0, 1) { line a (1, 0); line b (1, 0);'
        end = ' } area left a; from "0" to "1";'
        base, ends = (worth(0),) * 3, [worth(0), worth(1)]
        free = read_feature([], start + end)
        self.assertEqual(sketch_tool(1, free, base, ends), ("free", ["a", "b"]))
        contrary = read_feature([], start + ' dim a to b along (0, 1) "1"; dim a to b along (0, 1) "2";' + end)
        self.assertEqual(sketch_tool(1, contrary, base, ends), ("over", [1, 2]))

    def test_lines_told_by_dimensions(self):
        text = ('add at ("0", "0", "0") u (1, 0, 0) v (0, 1, 0) w (0, 0, 1) { line a (1, 0) through "0" "0"; line b (1, 0);'
                ' dim a to b along (0, 1) "w"; } area left a & right b; from "0" to "1";')
        _, (_, sides, _) = sketch(1, text, ["w"])
        self.assertEqual(list(sides)[:2], [((1, (), "a"), (0, 1, 0), worth(0, 0), True), ((1, (), "b"), (0, 1, 0), worth(0, 1), True)])


class Ends(unittest.TestCase):

    def tool(self, w, first, second):
        text = (f'add at ("0", "0", "5") u (1, 0, 0) v (0, 1, 0) w {w} {{ line a (1, 0) through "0" "0"; }}'
                f' area left a; from {"on" if first[0] == "n" else ""} "{first[1]}" to {"on" if second[0] == "n" else ""}'
                f' "{second[1]}";')
        feature = read_feature(["w"], text)
        ends = [end[2] if end[0] == "n" else feature[word][1] for end, word in ((first, "from"), (second, "to"))]
        return made(2, feature, feature["spot"][1], ends)

    def test_values(self):
        sides = self.tool((0, 0, 2), ("v", "1"), ("v", "w"))[1]
        self.assertEqual(sides[1], ((2, (), "low"), (0, 0, 1), worth(7, 0), True))
        self.assertEqual(sides[2], ((2, (), "high"), (0, 0, 1), worth(5, 2), False))
        sides = self.tool((0, 0, -2), ("v", "1"), ("v", "w"))[1]
        self.assertEqual(sides[1], ((2, (), "low"), (0, 0, 1), worth(3, 0), False))
        self.assertEqual(sides[2], ((2, (), "high"), (0, 0, 1), worth(5, -2), True))

    def test_planes(self):
        plane = ((1, 0, -2), worth(3, (1, 2)))
        sides = self.tool((0, 0, 1), ("n", "plane 1.a", plane), ("v", "4"))[1]
        self.assertEqual(sides[1], ((2, (), "low"), (1, 0, -2), worth(3, (1, 2)), False))
        self.assertEqual(sides[2], ((2, (), "high"), (0, 0, 1), worth(9, 0), False))
        sides = self.tool((5, 0, 1), ("v", "4"), ("n", "face 1.a", plane))[1]
        self.assertEqual(sides[1], ((2, (), "low"), (0, 0, 1), worth(9, 0), True))
        self.assertEqual(sides[2], ((2, (), "high"), (1, 0, -2), worth(3, (1, 2)), False))
        sides = self.tool((0, 0, 1), ("n", "plane 1.a", plane), ("n", "plane 1.b", ((0, 0, 1), worth(1, 1))))[1]
        self.assertEqual(sides[1], ((2, (), "low"), (1, 0, -2), worth(3, (1, 2)), False))
        self.assertEqual(sides[2], ((2, (), "high"), (0, 0, 1), worth(1, 1), False))


class Halves(unittest.TestCase):

    def test_one_side(self):
        tool = half_tool(4, {"op": "keep", "direction": (0, 0, 2)}, worth(3, 1))
        self.assertEqual((tool[0], list(tool[1]), tool[2]), (
            "keep", [((4, (), "half"), (0, 0, 1), worth((3, 2), (1, 2)), True)], ("side", 0)))
        tool = half_tool(4, {"op": "cut", "direction": (-3, 6, 0)}, worth(3, 1))
        self.assertEqual((tool[0], list(tool[1]), tool[2]), (
            "cut", [((4, (), "half"), (1, -2, 0), worth(-1, (-1, 3)), False)], ("side", 0)))

    def test_beyond_is_where_the_direction_points_to(self):
        for direction in ((1, 2, 3), (-1, -2, -3), (0, -2, 4), (-5, 0, 0)):
            spot = at(1, (1, 2), -3)
            tool = half(1, "add", direction, worth(along(direction, spot)))[1]
            for steps in (3, (1, 5), -2):
                k = Fraction(*steps) if isinstance(steps, tuple) else Fraction(steps)
                point = point_of([Fraction(*part) + k * step for part, step in zip(spot, direction)])
                self.assertEqual(is_in(tool, point), k > 0)

    def test_spread(self):
        self.assertEqual(spread((2, 0, -3), (worth(1, 1), worth(5, 7), worth((1, 2), (1, 3)))), worth((1, 2), 1))
        self.assertEqual(spread((0, 0, 1), (worth(1), worth(5), worth(9))), worth(9))


class Copies(unittest.TestCase):

    def setUp(self):
        text = SLANTED.format(u=(1, 2, 0), v=(-1, 1, 3), w=(2, 0, 1), area="left a & (right b | left c)")
        feature = read_feature(["w", "h"], text)
        self.tool = made(2, feature, feature["spot"][1], [feature["from"][1], feature["to"][1]])
        self.places = [point_of(place) for place in product(
            (Fraction(-22, 7), Fraction(1, 3), Fraction(25, 7)), (Fraction(-9, 5), Fraction(18, 11), 6), (-3, Fraction(3, 13), 5))]

    def test_shifted(self):
        _, tool = block(2, "cut", (2, 8), (3, 7), (1, "w"), ["w"])
        found = shifted_tool(5, 3, tool, (worth(1, 0), worth(0, 1), worth((1, 2), 2)))
        self.assertEqual(found[0], "cut")
        self.assertEqual(found[2], tool[2])
        self.assertEqual(list(found[1]), [
            ((5, (3,), "a"), (0, 1, 0), worth(3, 3), True), ((5, (3,), "b"), (1, 0, 0), worth(11, 0), False),
            ((5, (3,), "c"), (0, 1, 0), worth(7, 3), False), ((5, (3,), "d"), (1, 0, 0), worth(5, 0), True),
            ((5, (3,), "low"), (0, 0, 1), worth((5, 2), 6), True), ((5, (3,), "high"), (0, 0, 1), worth((3, 2), 7), False)])

    def test_shifted_places(self):
        shift = (worth(1, 1, 0), worth(0, 0, 2), worth((-1, 2), 0, 1))
        for k in (1, 4):
            found = shifted_tool(5, k, self.tool, shift)
            for place in self.places:
                moved = point_of([Fraction(*part) + k * step for part, step in zip(place, (4, 1, 0))])
                self.assertEqual(is_in(found, moved, SETTING), is_in(self.tool, place, SETTING))

    def test_mirrored(self):
        _, tool = half(2, "keep", (1, 2, 0), worth(3, 1))
        found = mirrored_tool(6, 1, tool, (2, 0, 0), worth(8, 2))
        # At x = 4 + p, x + 2 * y > 3 + p becomes 8 + 2 * p - x + 2 * y > 3 + p.
        self.assertEqual((found[0], list(found[1]), found[2]), (
            "keep", [((6, (1,), "half"), (1, -2, 0), worth(5, 1), False)], ("side", 0)))

    def test_mirrored_places(self):
        for direction in ((1, 0, 0), (0, -3, 0), (1, 1, 0), (1, -2, 3), (-2, 2, 1)):
            offset = worth(2, (1, 3), -2)
            found = mirrored_tool(6, 1, self.tool, direction, offset)
            self.assertEqual([side[0] for side in found[1]], [(6, (1,), side[0][2]) for side in self.tool[1]])
            for side in found[1]:
                self.assertEqual(side[1], canonical(side[1]))
            for place in self.places:
                ahead = Fraction(*along(direction, place)) - 2
                size = sum(part * part for part in direction)
                moved = point_of([Fraction(*part) - 2 * ahead / size * step for part, step in zip(place, direction)])
                self.assertEqual(is_in(found, moved, SETTING), is_in(self.tool, place, SETTING))

    def test_a_copy_of_a_copy(self):
        shift = (worth(1, 0, 0), worth(0, 0, 0), worth(0, 0, 0))
        once = shifted_tool(5, 3, self.tool, shift)
        twice = shifted_tool(7, 2, once, shift)
        self.assertEqual([side[0] for side in twice[1]], [(7, (2, 3), side[0][2]) for side in self.tool[1]])
        mirrored = mirrored_tool(9, 1, twice, (0, 0, 1), worth(0, 0, 0))
        self.assertEqual([side[0] for side in mirrored[1]], [(9, (1, 2, 3), side[0][2]) for side in self.tool[1]])
        whole = shifted_tool(8, 5, self.tool, shift)
        self.assertEqual([side[1:] for side in twice[1]], [side[1:] for side in whole[1]])
        again = mirrored_tool(9, 1, mirrored, (0, 0, -2), worth(0, 0, 0))
        self.assertEqual([side[1:] for side in again[1]], [side[1:] for side in whole[1]])

    def test_what_is_handed_in_does_not_change(self):
        before = (self.tool[0], list(self.tool[1]), self.tool[2])
        shifted_tool(5, 3, self.tool, (worth(1, 0, 0),) * 3)
        mirrored_tool(5, 1, self.tool, (1, 0, 0), worth(1, 0, 0))
        self.assertEqual((self.tool[0], list(self.tool[1]), self.tool[2]), before)


if __name__ == "__main__":
    unittest.main()
