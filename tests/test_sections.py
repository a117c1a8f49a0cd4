"""Point 63: sections."""

import random
import unittest

import reference
from solids import block, body_of, half, plain_block, points, slotted_block
from test_bodies import bodies, random_body
from truepart.bodies import Body
from truepart.sections import section

X, Y, Z = (1, 0, 0), (0, 1, 0), (0, 0, 1)


def plane(normal, offset):
    return (normal, offset if isinstance(offset, tuple) else (offset, 1))


def told(body):
    return (list(body.planes), list(body.tools), list(body.cells), body.low, body.high)


class Section(unittest.TestCase):

    def test_a_plane_of_its_own(self):
        self.assertEqual(section(plain_block(), plane(Z, 2)), [((24, 1), points((2, 3, 2), (2, 7, 2), (8, 3, 2), (8, 7, 2)))])
        self.assertEqual(section(plain_block(), plane(X, (9, 2))), [
            ((12, 1), points(((9, 2), 3, 1), ((9, 2), 3, 4), ((9, 2), 7, 1), ((9, 2), 7, 4)))])

    def test_a_slope(self):
        # x + z = 6 cuts the block from x = 2 at z = 4 to x = 5 at z = 1: its shadow on z is 3 times 4.
        self.assertEqual(section(plain_block(), plane((1, 0, 1), 6)), [
            ((12, 1), points((2, 3, 4), (2, 7, 4), (5, 3, 1), (5, 7, 1)))])
        # Its shadow on z is a triangle, its area told over the length of the normal.
        self.assertEqual(section(plain_block(), plane((1, 2, 3), 12)), [((1, 12), points((2, 3, (4, 3)), (2, (7, 2), 1), (3, 3, 1)))])

    def test_a_plane_of_the_body(self):
        # The floor of the slot goes on inside the body on both sides of the slot.
        body = slotted_block()
        self.assertEqual(section(body, plane(Z, 2)), [
            ((6, 1), points((2, 3, 2), (2, 4, 2), (8, 3, 2), (8, 4, 2))),
            ((12, 1), points((2, 5, 2), (2, 7, 2), (8, 5, 2), (8, 7, 2)))])
        # Where a flat place is, the body is not on both sides.
        self.assertEqual(section(body, plane(Y, 4)), [((6, 1), points((2, 4, 1), (2, 4, 2), (8, 4, 1), (8, 4, 2)))])

    def test_planes_that_miss_or_touch(self):
        body = slotted_block()
        for wall in (plane(Z, 5), plane(Z, 4), plane(Z, 1), plane(X, 2), plane(X, 99), plane(Z, 0), plane(X, 10), plane(Y, -1),
                     plane((1, 1, 1), 6), plane((1, 1, 0), 5), plane((1, 1, 1), 99)):
            self.assertEqual(section(body, wall), [])
        self.assertEqual(section(body_of(), plane(Z, 5)), [])

    def test_the_whole_room(self):
        body = body_of(half(1, "add", X, ((-1, 1), ())))
        self.assertEqual(section(body, plane(Z, 5)), [((100, 1), points((0, 0, 5), (0, 10, 5), (10, 0, 5), (10, 10, 5)))])
        self.assertEqual(section(body, plane(Z, 0)), [])
        self.assertEqual(section(body, plane(Z, 10)), [])

    def test_a_part_with_a_hole(self):
        body = body_of(block(1, "add", (1, 9), (1, 9), (1, 9)), block(2, "cut", (3, 5), (3, 5), (2, 8)))
        self.assertEqual(section(body, plane(Z, 5)), [((64 - 4, 1), points(
            (1, 1, 5), (1, 9, 5), (3, 3, 5), (3, 5, 5), (5, 3, 5), (5, 5, 5), (9, 1, 5), (9, 9, 5)))])

    def test_a_slot_that_parts_it(self):
        self.assertEqual(section(slotted_block(), plane(X, 5)), [((4 * 3 - 2, 1), points(
            (5, 3, 1), (5, 3, 4), (5, 4, 2), (5, 4, 4), (5, 5, 2), (5, 5, 4), (5, 7, 1), (5, 7, 4)))])
        self.assertEqual(section(slotted_block(), plane(Z, 3)), [
            ((6, 1), points((2, 3, 3), (2, 4, 3), (8, 3, 3), (8, 4, 3))),
            ((12, 1), points((2, 5, 3), (2, 7, 3), (8, 5, 3), (8, 7, 3)))])

    def test_parts_that_meet_at_a_point_alone(self):
        body = body_of(block(1, "add", (2, 4), (2, 4), (1, 3)), block(2, "add", (4, 6), (4, 6), (1, 3)))
        self.assertEqual(section(body, plane(Z, 2)), [
            ((4, 1), points((2, 2, 2), (2, 4, 2), (4, 2, 2), (4, 4, 2))),
            ((4, 1), points((4, 4, 2), (4, 6, 2), (6, 4, 2), (6, 6, 2)))])

    def test_the_order_of_the_parts(self):
        # The corners of the second part begin like those of the first one and go on.
        wedges = [half(1, "add", (1, -1, 0), ((0, 1), ())), half(2, "cut", (3, -4, 0), ((0, 1), ())),
                  half(3, "add", (-2, 1, 0), ((0, 1), ()))]
        self.assertEqual(section(body_of(*wedges), plane(Z, 5)), [
            ((25, 1), points((0, 0, 5), (0, 10, 5), (5, 10, 5))),
            ((25, 2), points((0, 0, 5), (10, (15, 2), 5), (10, 10, 5)))])

    def test_the_body_stays_as_it_was(self):
        for wall in (plane(Z, 2), plane(Z, 3), plane((1, 2, 3), 20)):
            body, other = slotted_block(), slotted_block()
            section(body, wall)
            self.assertEqual(told(body), told(other))

    def test_random_bodies_as_the_document_says(self):
        chance = random.Random(63)
        for body in bodies() + [random_body(chance) for _ in range(5)]:
            for wall in [chance.choice(body.planes), plane((1, 2, -1), (chance.randint(-9, 29), 2)), plane(Z, (7, 2))]:
                at = len(body.planes) - 6
                tools, cut = [], body
                if wall not in body.planes:
                    for number, op, sides, test in body.tools[:-1]:
                        moved = [(side[0], side[1] + (side[1] >= at), side[2]) for side in sides]
                        tools.append((number, op, moved, test))
                    cut = Body(body.low, body.high, body.planes[:at] + [wall] + body.planes[at:], tools)
                self.assertEqual(section(body, wall), reference.section(cut, wall))


if __name__ == "__main__":
    unittest.main()
