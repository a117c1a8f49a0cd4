"""Points 44, 45 and 46: bodies."""

import random
import unittest

import reference
from solids import HIGH, LOW, at, block, body_of, half, origins, plain_block, points, slotted_block, worth
from truepart.bodies import Body, after_tool, room_planes, test_holds as holds_in_tool
from truepart.cells import arrange, centre, walls
from truepart.planes import sides

X, Y, Z = (1, 0, 0), (0, 1, 0), (0, 0, 1)


def plane(normal, offset):
    return (normal, (offset, 1))


# Tools by their indexes: of the plane x = 4, which is the first one.
def upper(number, op, name="p"):
    return (number, op, [((number, (), name), 0, True)], ("side", 0))


def lower(number, op, name="p"):
    return (number, op, [((number, (), name), 0, False)], ("side", 0))


def all_space(number, op):
    return (number, op, [((number, (), "p"), 0, True)], ("either", ("side", 0), ("not", ("side", 0))))


def body_at_four(*tools):
    return Body(LOW, HIGH, [plane(X, 4)] + room_planes(LOW, HIGH), list(tools))


def told(body, name):
    """The flat places of a side of the room or of another origin: plane and whether the body is below."""
    return [(flat[2], flat[4]) for flat in body.flats() if flat[3] in origins(name)]


class Parts(unittest.TestCase):

    def test_after_tool(self):
        for op, expected in [("add", (False, True, True, True)), ("cut", (False, False, True, False)),
                             ("keep", (False, False, False, True))]:
            found = [after_tool(op, state, there) for state in (False, True) for there in (False, True)]
            self.assertEqual(found, list(expected), op)
            for part in found:
                self.assertIsInstance(part, bool)

    def test_tests(self):
        halves = [((1, (), "a"), 0, True), ((1, (), "b"), 1, False), ((1, (), "c"), 0, False)]
        for signs, expected in [((1, 1), (True, False, False)), ((-1, 1), (False, False, True)), ((1, -1), (True, True, False))]:
            for k in range(3):
                self.assertIs(holds_in_tool(("side", k), halves, signs), expected[k])
                self.assertIs(holds_in_tool(("not", ("side", k)), halves, signs), not expected[k])
            for i in range(3):
                for j in range(3):
                    one, other = ("side", i), ("side", j)
                    self.assertIs(holds_in_tool(("both", one, other), halves, signs), expected[i] and expected[j])
                    self.assertIs(holds_in_tool(("either", one, other), halves, signs), expected[i] or expected[j])
                    mixed = ("both", ("not", ("either", one, other)), ("either", one, ("not", other)))
                    self.assertIs(holds_in_tool(mixed, halves, signs), not expected[i] and not expected[j])

    def test_a_long_test(self):
        test = ("side", 0)
        for _ in range(300):
            test = ("either", test, ("side", 1))
        halves = [((1, (), "a"), 0, True), ((1, (), "b"), 1, True)]
        self.assertIs(holds_in_tool(test, halves, (-1, 1)), True)
        self.assertIs(holds_in_tool(test, halves, (-1, -1)), False)

    def test_room_planes(self):
        low, high = at(-1, (1, 2), 0), at(3, 4, (9, 2))
        self.assertEqual(room_planes(low, high), walls(low, high))
        self.assertEqual(room_planes(LOW, HIGH), [plane(X, 0), plane(X, 10), plane(Y, 0), plane(Y, 10), plane(Z, 0), plane(Z, 10)])


class Fields(unittest.TestCase):

    def test_fields(self):
        planes = [plane(X, 4)] + room_planes(LOW, HIGH)
        body = Body(LOW, HIGH, planes, [upper(1, "add")])
        self.assertEqual((body.low, body.high), (LOW, HIGH))
        self.assertEqual(body.planes, planes)
        self.assertEqual(body.cells, arrange(planes, LOW, HIGH))

    def test_the_room_is_the_last_tool(self):
        body = body_at_four(upper(3, "add"), lower(5, "cut"))
        self.assertEqual(len(body.tools), 3)
        self.assertEqual([tool[:2] for tool in body.tools], [(3, "add"), (5, "cut"), (0, "keep")])
        self.assertEqual(list(body.tools[2][2]), [
            ((0, (), "xl"), 1, True), ((0, (), "xh"), 2, False), ((0, (), "yl"), 3, True), ((0, (), "yh"), 4, False),
            ((0, (), "zl"), 5, True), ((0, (), "zh"), 6, False)])
        for k in range(6):
            signs = [1, 1, -1, 1, -1, 1, -1]
            self.assertTrue(holds_in_tool(body.tools[2][3], body.tools[2][2], signs))
            signs[k + 1] = -signs[k + 1]
            self.assertFalse(holds_in_tool(body.tools[2][3], body.tools[2][2], signs))

    def test_what_is_handed_in_does_not_change(self):
        planes, tools = [plane(X, 4)] + room_planes(LOW, HIGH), [upper(1, "add")]
        body = Body(LOW, HIGH, planes, tools)
        self.assertEqual((len(planes), tools), (7, [upper(1, "add")]))
        planes.clear()
        tools[0][2].clear()
        tools.clear()
        self.assertEqual(len(body.planes), 7)
        self.assertEqual(len(body.flats()), 6)

    def test_what_is_returned_is_new(self):
        body = plain_block()
        before = body.flats()
        for flat in body.flats():
            flat[1].clear()
        body.flats().clear()
        self.assertEqual(body.flats(), before)
        cells = body.solid_cells()
        for cell in body.solid_cells():
            cell[1].clear()
        self.assertEqual(body.solid_cells(), cells)

    def test_nothing(self):
        body = Body(LOW, HIGH, room_planes(LOW, HIGH), [])
        self.assertEqual(len(body.cells), 27)
        self.assertEqual(body.flats(), [])
        self.assertEqual(body.solid_cells(), [])
        self.assertIs(body.holds((1, -1, 1, -1, 1, -1)), False)


class Holding(unittest.TestCase):

    def holds(self, *tools):
        """Whether the places below and above x = 4 are in a body."""
        body = body_at_four(*tools)
        return [body.holds((side, 1, -1, 1, -1, 1, -1)) for side in (-1, 1)]

    def test_tools_behind_one_another(self):
        self.assertEqual(self.holds(upper(1, "add")), [False, True])
        self.assertEqual(self.holds(upper(1, "cut")), [False, False])
        self.assertEqual(self.holds(upper(1, "keep")), [False, False])
        self.assertEqual(self.holds(upper(1, "add"), lower(2, "add")), [True, True])
        self.assertEqual(self.holds(all_space(1, "add"), upper(2, "cut")), [True, False])
        self.assertEqual(self.holds(all_space(1, "add"), upper(2, "keep")), [False, True])
        self.assertEqual(self.holds(upper(1, "cut"), all_space(2, "add")), [True, True])
        self.assertEqual(self.holds(upper(1, "add"), upper(2, "cut"), lower(3, "add")), [True, False])
        self.assertEqual(self.holds(upper(1, "add"), lower(2, "keep"), upper(3, "add")), [False, True])
        self.assertEqual(self.holds(all_space(1, "add"), lower(2, "keep"), upper(3, "keep")), [False, False])

    def test_outside_the_room_there_is_nothing(self):
        body = body_at_four(all_space(1, "add"))
        self.assertIs(body.holds((1, 1, -1, 1, -1, 1, -1)), True)
        for k in range(6):
            signs = [1, 1, -1, 1, -1, 1, -1]
            signs[k + 1] = -signs[k + 1]
            self.assertIs(body.holds(tuple(signs)), False)

    def test_against_points(self):
        for body in bodies():
            for signs, there in body.cells:
                if 0 not in signs:
                    self.assertIs(body.holds(signs), reference.in_body(body, centre(there)))

    def test_solid_cells_in_the_order_of_the_cells(self):
        for body in bodies():
            expected = [cell for cell in body.cells if 0 not in cell[0] and reference.in_body(body, centre(cell[1]))]
            self.assertEqual(body.solid_cells(), expected)
        self.assertEqual(len(plain_block().solid_cells()), 1)
        self.assertEqual(plain_block().solid_cells()[0][1], points(
            (2, 3, 1), (2, 3, 4), (2, 7, 1), (2, 7, 4), (8, 3, 1), (8, 3, 4), (8, 7, 1), (8, 7, 4)))


class Makers(unittest.TestCase):

    def maker(self, *tools):
        return body_at_four(*tools).maker((-1, 1, -1, 1, -1, 1, -1), (1, 1, -1, 1, -1, 1, -1))

    def test_the_last_tool_that_makes_a_difference(self):
        self.assertEqual(self.maker(upper(1, "add")), 0)
        self.assertEqual(self.maker(all_space(1, "add"), upper(2, "cut")), 1)
        self.assertEqual(self.maker(upper(1, "add"), upper(2, "add")), 0)
        self.assertEqual(self.maker(upper(1, "add"), upper(2, "cut")), 1)
        self.assertEqual(self.maker(upper(1, "add"), lower(2, "cut")), 0)
        self.assertEqual(self.maker(upper(1, "add"), upper(2, "keep")), 0)
        self.assertEqual(self.maker(upper(1, "cut"), upper(2, "keep"), lower(3, "add")), 2)
        self.assertEqual(self.maker(upper(1, "add"), lower(2, "add"), lower(3, "cut")), 2)

    def test_one_place_is_enough(self):
        self.assertEqual(self.maker(upper(1, "add"), all_space(2, "add"), lower(3, "keep"), upper(4, "cut")), 2)

    def test_none(self):
        self.assertIsNone(self.maker(upper(1, "cut"), upper(2, "keep")))
        self.assertIsNone(self.maker())

    def test_the_room(self):
        body = body_at_four(all_space(1, "add"))
        self.assertEqual(body.maker((1, -1, -1, 1, -1, 1, -1), (1, 1, -1, 1, -1, 1, -1)), 1)

    def test_beside(self):
        body = body_at_four(upper(1, "add"))
        self.assertEqual(body.beside((0, 1, -1, 1, -1, 1, -1), 0), ((-1, 1, -1, 1, -1, 1, -1), (1, 1, -1, 1, -1, 1, -1)))
        self.assertEqual(body.beside((1, 1, -1, 0, -1, 1, -1), 3), ((1, 1, -1, -1, -1, 1, -1), (1, 1, -1, 1, -1, 1, -1)))


class Origins(unittest.TestCase):

    def side(self, sides_of, test, op="add", *tools):
        made = (2, op, [((2, (), name), 0, above) for name, above in sides_of], test)
        return body_at_four(*tools, made).side((-1, 1, -1, 1, -1, 1, -1), (1, 1, -1, 1, -1, 1, -1), 0)

    def test_the_side_of_the_maker(self):
        body = body_at_four(upper(1, "add"), all_space(2, "add"), upper(3, "cut", "q"))
        self.assertEqual(body.side((-1, 1, -1, 1, -1, 1, -1), (1, 1, -1, 1, -1, 1, -1), 0), (3, (), "q"))

    def test_two_sides_on_one_plane(self):
        a, b = ("side", 0), ("side", 1)
        self.assertEqual(self.side([("a", True), ("b", True)], ("either", a, b)), (2, (), "a"))
        self.assertEqual(self.side([("a", True), ("b", True)], ("both", a, b)), (2, (), "b"))
        self.assertEqual(self.side([("a", True), ("b", False)], ("both", a, ("not", b))), (2, (), "b"))
        self.assertEqual(self.side([("a", False), ("b", False)], ("both", a, b)), (2, (), "a"))
        self.assertEqual(self.side([("a", False), ("b", False)], ("either", a, b)), (2, (), "b"))
        self.assertEqual(self.side([("a", True), ("b", True)], b), (2, (), "b"))

    def test_three_sides_that_turn_in_and_out(self):
        a, b, c = ("side", 0), ("side", 1), ("side", 2)
        # In it with one of them or with all three.
        one = ("both", ("either", a, ("either", b, c)), ("not", ("both", a, b)))
        odd = ("either", one, ("both", ("both", a, b), c))
        self.assertEqual(self.side([("a", True), ("b", True), ("c", True)], odd), (2, (), "a"))

    def test_out_of_the_tool(self):
        a, b = ("side", 0), ("side", 1)
        self.assertEqual(self.side([("a", True), ("b", True)], ("both", a, b), "cut", all_space(1, "add")), (2, (), "b"))
        self.assertEqual(self.side([("a", True), ("b", True)], ("not", ("either", a, b)), "cut", all_space(1, "add")), (2, (), "a"))


class Flats(unittest.TestCase):

    def test_of_a_block(self):
        body = plain_block()
        found = {flat[3]: flat for flat in body.flats()}
        self.assertEqual(sorted(found), origins("1.a 1.b 1.c 1.d 1.high 1.low"))
        self.assertEqual(len(body.flats()), 6)
        high = found[(1, (), "high")]
        self.assertEqual(high[1], points((2, 3, 4), (2, 7, 4), (8, 3, 4), (8, 7, 4)))
        self.assertEqual(body.planes[high[2]], plane(Z, 4))
        self.assertEqual(high[0], sides(body.planes, at(5, 5, 4)))
        self.assertIs(high[4], True)
        self.assertEqual([found[origin][4] for origin in origins("1.a 1.b 1.c 1.d 1.low")], [False, True, True, False, False])

    def test_on_the_boundary_of_the_room(self):
        body = body_at_four(upper(1, "add"))
        self.assertEqual(told(body, "1.p"), [(0, False)])
        self.assertEqual(told(body, "0.xh"), [(2, True)])
        self.assertEqual([told(body, name) for name in ("0.xl", "0.yl", "0.yh", "0.zl", "0.zh")], [
            [], [(3, False)], [(4, True)], [(5, False)], [(6, True)]])

    def test_a_side_on_the_boundary_of_the_room(self):
        body = body_of(block(1, "add", (0, 8), (3, 10), (-2, 4)))
        self.assertEqual(told(body, "1.d"), [(body.planes.index(plane(X, 0)), False)])
        self.assertEqual(told(body, "1.c"), [(body.planes.index(plane(Y, 10)), True)])
        self.assertEqual(told(body, "0.zl"), [(body.planes.index(plane(Z, 0)), False)])
        self.assertEqual([told(body, name) for name in ("0.xl", "0.yh", "1.low")], [[], [], []])

    def test_what_a_later_tool_makes(self):
        body = body_of(block(1, "add", (2, 8), (3, 7), (1, 4)), half(2, "cut", (0, 0, 1), worth(4)),
                       half(3, "keep", (1, 0, 0), worth(5)), block(4, "add", (5, 6), (3, 7), (1, 4)))
        # The plane x = 6 of the last tool parts the top, but this tool makes nothing.
        self.assertEqual(told(body, "1.high"), [(body.planes.index(plane(Z, 4)), True)] * 2)
        self.assertEqual(told(body, "2.half"), [])
        self.assertEqual(told(body, "3.half"), [(body.planes.index(plane(X, 5)), False)])
        self.assertNotIn(4, [flat[3][0] for flat in body.flats()])

    def test_what_two_tools_make_together(self):
        # The second block fills a gap that the cut left, and its side lies on the plane of the first one's.
        body = body_of(block(1, "add", (2, 8), (3, 7), (1, 4)), block(2, "cut", (4, 6), (2, 8), (0, 5)),
                       block(3, "add", (4, 6), (3, 7), (1, 4)))
        self.assertEqual(len(told(body, "1.high")), 2)
        self.assertEqual(len(told(body, "3.high")), 1)
        self.assertEqual(told(body, "2.b") + told(body, "2.d"), [])

    def test_against_the_words_of_the_document(self):
        for body in bodies():
            found = []
            for signs, there in body.cells:
                if signs.count(0) == 1:
                    k = signs.index(0)
                    below, above = [signs[:k] + (side,) + signs[k + 1:] for side in (-1, 1)]
                    if body.holds(below) != body.holds(above):
                        found.append((signs, there, k, body.holds(below)))
            flats = body.flats()
            self.assertEqual([(flat[0], flat[1], flat[2], flat[4]) for flat in flats], found)
            for signs, _, k, origin, _ in flats:
                below, above = body.beside(signs, k)
                maker = body.maker(below, above)
                self.assertIn((origin, k), [(side[0], side[1]) for side in body.tools[maker][2]])
                self.assertEqual(origin, body.side(below, above, k))


def random_test(chance, many, depth=0):
    kind = chance.choice(("side", "side", "not", "both", "either", "both", "either")) if depth < 3 else "side"
    if kind == "side":
        return ("side", chance.randrange(many))
    if kind == "not":
        return ("not", random_test(chance, many, depth + 1))
    return (kind, random_test(chance, many, depth + 1), random_test(chance, many, depth + 1))


def random_body(chance, most=4):
    """A body of some tools with sides of all kinds, many of them on the same planes, within 4 times 4 times 4."""
    tools = []
    for number in range(1, chance.randint(2, most) + 1):
        sides_of = []
        for name in "abcd"[:chance.randint(1, 4)]:
            normal = chance.choice([X, Y, Z, X, Y, Z, (1, 1, 0), (1, -1, 0), (0, 1, 1), (1, 1, 1)])
            origin = (number, (), name) if chance.random() < 0.9 else (9, (), "x")
            sides_of.append((origin, normal, worth(chance.randint(0, 5)), chance.random() < 0.5))
        op = chance.choice(("add", "add", "cut", "keep")) if number > 1 else "add"
        tools.append((number, (op, sides_of, random_test(chance, len(sides_of)))))
    return body_of(*tools, low=at(0, 0, 0), high=at(4, 4, 4))


def bodies():
    """Bodies of several kinds."""
    chance = random.Random(20)
    return [plain_block(), slotted_block()] + [random_body(chance) for _ in range(6)]


if __name__ == "__main__":
    unittest.main()
