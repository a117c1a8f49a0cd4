"""Point 44: which planes a body has, and which of them its sides have."""

import unittest

from solids import HIGH, LOW, at, block, body_of, half, worth
from truepart.bodies import Body, room_planes
from truepart.placing import placed_body

X, Y, Z = (1, 0, 0), (0, 1, 0), (0, 0, 1)


def plane(normal, offset):
    return (normal, offset if isinstance(offset, tuple) else (offset, 1))


def places(tool):
    return [(side[1], side[2]) for side in tool[2]]


class Planes(unittest.TestCase):

    def test_in_the_order_in_which_they_come_first(self):
        body = body_of(block(1, "add", (2, 8), (3, 7), (1, 4)), half(2, "cut", (1, 1, 0), worth(9)))
        self.assertEqual(body.planes, [plane(Y, 3), plane(X, 8), plane(Y, 7), plane(X, 2), plane(Z, 1), plane(Z, 4),
                                       plane((1, 1, 0), 9)] + room_planes(LOW, HIGH))
        self.assertEqual(places(body.tools[0]), [(0, True), (1, False), (2, False), (3, True), (4, True), (5, False)])
        self.assertEqual(places(body.tools[1]), [(6, True)])
        self.assertEqual(places(body.tools[2]), [(7, True), (8, False), (9, True), (10, False), (11, True), (12, False)])

    def test_the_tools(self):
        tools = [block(1, "add", (2, 8), (3, 7), (1, 4)), half(5, "cut", (1, 1, 0), worth(9))]
        body = placed_body(LOW, HIGH, tools, [])
        self.assertIsInstance(body, Body)
        self.assertEqual((body.low, body.high), (LOW, HIGH))
        self.assertEqual([tool[:2] for tool in body.tools], [(1, "add"), (5, "cut"), (0, "keep")])
        self.assertEqual([side[0] for side in body.tools[0][2]], [(1, (), name) for name in ("a", "b", "c", "d", "low", "high")])
        self.assertEqual([tool[3] for tool in body.tools[:2]], [tool[1][2] for tool in tools])

    def test_two_sides_on_one_plane(self):
        body = body_of(half(1, "add", (1, 0, 0), worth(4)), half(2, "cut", (0, 1, 0), worth(3)),
                       half(3, "cut", (-2, 0, 0), worth(-8)), half(4, "add", (0, 1, 0), worth(5)))
        self.assertEqual(body.planes, [plane(X, 4), plane(Y, 3), plane(Y, 5)] + room_planes(LOW, HIGH))
        self.assertEqual([places(tool) for tool in body.tools[:4]], [[(0, True)], [(1, True)], [(0, False)], [(2, True)]])

    def test_sides_on_planes_of_the_room(self):
        body = body_of(half(1, "add", (0, 1, 0), worth(10)), half(2, "add", (0, 0, -1), worth(0)),
                       half(3, "add", (1, 0, 0), worth(1)))
        self.assertEqual(body.planes, [plane(X, 1)] + room_planes(LOW, HIGH))
        self.assertEqual([places(tool) for tool in body.tools[:3]], [[(4, True)], [(5, False)], [(0, True)]])

    def test_no_tools(self):
        body = placed_body(LOW, HIGH, [], [(1, 1)])
        self.assertEqual(body.planes, room_planes(LOW, HIGH))
        self.assertEqual([tool[0] for tool in body.tools], [0])

    def test_the_setting(self):
        tools = [half(1, "add", (1, 0, 0), worth(1, 2, 0)), half(2, "add", (1, 0, 0), worth(5, 0, -1))]
        body = body_of(*tools, setting=[(1, 2), (1, 3)])
        self.assertEqual(body.planes[:-6], [plane(X, 2), plane(X, (14, 3))])
        body = body_of(*tools, setting=[(1, 1), (2, 1)])
        self.assertEqual(body.planes[:-6], [plane(X, 3)])
        self.assertEqual([places(tool) for tool in body.tools[:2]], [[(0, True)], [(0, True)]])
        body = body_of(*tools, setting=[(9, 2), (4, 1)])
        self.assertEqual(body.planes[:-6], [plane(X, 1)])
        self.assertEqual([places(tool) for tool in body.tools[:2]], [[(2, True)], [(0, True)]])

    def test_all_are_different(self):
        body = body_of(*[half(k, "add", (k % 3 + 1, k % 2, 0), worth(k % 4)) for k in range(1, 25)], low=at(-1, 0, 0))
        self.assertEqual(len(body.planes), len(set(body.planes)))
        self.assertEqual(body.planes[-6:], room_planes(at(-1, 0, 0), HIGH))

    def test_what_is_handed_in_does_not_change(self):
        tools, setting = [block(1, "add", (2, 8), (3, 7), (1, 4))], [(1, 1)]
        before = (tools[0], list(tools[0][1][1]))
        placed_body(LOW, HIGH, tools, [])
        self.assertEqual((tools[0], list(tools[0][1][1])), before)
        self.assertEqual((len(tools), setting), (1, [(1, 1)]))


if __name__ == "__main__":
    unittest.main()
